/-
  Packed: VlanRow VlanBits PtApp PduHelp OidMath MibFind OidSame OidLess Draw Drawb DrawVec DrawPt GTake.
-/
import Derived.Test.YtcpdkcdfnpcemaaGreatPHK04
import Derived.Below
namespace Go.Proofs.YtcpdkcdfnpcemaaGreat
set_option maxRecDepth 100000
set_option maxHeartbeats 16000000
open Go.RowKit

theorem cell1 {w:World} {g:Nat} {T:TypeId} {v:Value} (h:w.heap[g]? = some (.cells #[v] T)):w.cell? ⟨g,0,none⟩=some v:=by simp [World.cell?,h]

theorem zeW (v:Value) (w:World):(method 434 119 v "loop.example/g00326/impl.number").run Tryz.prog w=.ok (316,v) w:=by kernel_rfl

theorem zaL (r:VR) (w:World):Calls Tryz.prog 316 #[.agg #[.int .i64 r.i,.int .i64 r.m,.int .i64 r.b]] w fun e w'=>e=.returned (.int .i64 r.i)∧Below w.heap.size w w':=by
 go_enter Tryz.func316,Tryz.ntmps316;go_wp2;go_ret;exact ⟨rfl,zh _ _⟩

theorem zbz (a:Option Addr) (n c:Nat) (o:Option Addr) (p q:Nat) (w:World):Calls Tryz.prog 143 #[.agg #[.slice a n c,.slice o p q]] w fun e w'=>e=.returned (.slice a n c)∧Below w.heap.size w w':=by
 go_enter Tryz.func143,Tryz.ntmps143;go_wp2;go_ret;exact ⟨rfl,zh _ _⟩

theorem zb9 (r:VR) (id:Int) (g:Nat) (w:World) (c:w.heap[g]? = some (.cells #[.int .i64 id] 3)) :
  Calls Tryz.prog 256 #[.agg #[.int .i64 r.i,.int .i64 r.m,.int .i64 r.b],.pointer (some ⟨g,0,none⟩)] w fun e w'=>e=.returned (.bool (r.i == id))∧Below w.heap.size w w':=by
 have hm:=zeW;generalize hw1:w.alloc (Obj.cells #[.int .i64 r.i,.int .i64 r.m,.int .i64 r.b] 119)=w1;have q:=zb hw1;have k0:=zk hw1;have HS:Hid (∀W,Below w1.heap.size w1 W→(zcc W w.heap.size 0 (.int .i64 r.i)∧zcc W w.heap.size 1 (.int .i64 r.m)∧zcc W w.heap.size 2 (.int .i64 r.b))∧zcc W g 0 (.int .i64 id)):=hide (fun W hW=>⟨(zcJ (ze k0 hW)).1,cell1 (ze (ze c q) hW)⟩);clear k0;have vv:Below w1.heap.size w1 w1.drew:=zv (Below.refl _ _);go_enter Tryz.func256,Tryz.ntmps256;go_wp2_with fail
 refine wp_region_held_drew (S:=(fun W=>(zcc W w.heap.size 0 (.int .i64 r.i)∧zcc W w.heap.size 1 (.int .i64 r.m)∧zcc W w.heap.size 2 (.int .i64 r.b))∧zcc W g 0 (.int .i64 id))) (by kernel_rfl) (HS.out _ vv) (fun hHeld => ?_);refine kK 0 ?_;refine kK 1 ?_;refine kK 3 ?_;refine kR 2 fun K hK => ?_
 go_simp;refine (zaL r _).mono ?_;rintro e wz ⟨rfl,hbz⟩;have vv:=zd vv hbz;go_wp2_with fail
 refine kO hK (HS.out _ vv) fun hHeld => ?_
 clear hK K;refine kK 4 ?_;refine kK 5 ?_;refine wpAnyH_done (by kernel_rfl) ?_ _;have HB:=hide (zd q vv);clear HS vv q;go_wp2;go_ret;exact ⟨rfl,HB.out⟩

theorem ze8 (a:Option Addr) (n c:Nat) (l:List VR) (id:Int) (g:Nat) (w:World) (h:GRow vrowF w a n c l) (cg:w.heap[g]? = some (.cells #[.int .i64 id] 3)) :
  Calls Tryz.prog 255 #[.slice a n c,.func (.func 256) #[] #[.pointer (some ⟨g,0,none⟩)]] w fun r w'=>r=.returned (.int .i64 (rowAt l id))∧Below w.heap.size w w':=by
 have hle:=h.le;have htop:=h.top;unfold maxLen at htop;have hsz:=h.size;go_enter Tryz.func255,Tryz.ntmps255;go_wp2
 go_loopw [8] (fun i wr=>∃k:Nat,k≤n∧i=.int .i64 k∧(∀(j:Nat) (y:VR),j < k→l[j]? = some y→(y.i == id)=false)∧Below w.heap.size w wr) (fun i _=>n - (intOf i).toNat)
 case atStart=>exact ⟨0,Nat.zero_le _,rfl,fun j y hj=>by omega,Below.refl _ _⟩
 case round =>
  obtain ⟨k,hk,rfl,hno,hb⟩:=hrel;by_cases hlt:k < n
  ·obtain ⟨x,b,off,hx,rfl,c0,c1,c2⟩:=zaD (h.below hb) k hlt;cases t1:(x.i == id)
   ·have HO:=hide (zge hno hx t1);have HA:=hide t1;have HB:=hide hb;clear t1 hno hb hx;(go_wp2_with fail);refine (zb9 x id g _ (ze cg HB.out)).mono ?_;rintro r w1 ⟨rfl,hb1⟩;rw [HA.out];have HB1:=hide (zd HB.out hb1);clear hb1 c0 c1 c2;go_wp2
    go_roundw
    case rel=>exact ⟨k+1,by omega,by go_num,HO.out,HB1.out⟩
    case measure=>simp [intOf]; omega
   ·have HF:=hide (zdA hno hx t1);have HA:=hide t1;have HB:=hide hb;clear t1 hno hb hx;(go_wp2_with fail);refine (zb9 x id g _ (ze cg HB.out)).mono ?_;rintro r w1 ⟨rfl,hb1⟩;rw [HA.out];have HB1:=hide (zd HB.out hb1);clear hb1 c0 c1 c2;go_wp2;go_ret;exact ⟨(by rw [HF.out]; rfl),HB1.out⟩
  ·have hkn:k=n:=by omega
   have HF:=hide (zd3 (l:=l) (id:=id) (fun i y hy=>hno i y (by have:=(List.getElem?_eq_some_iff.1 hy).1; omega) hy));have HB:=hide hb;clear hno hb;subst hkn;go_wp2;go_ret;exact ⟨(by rw [HF.out]; rfl),HB.out⟩

theorem zed (a:Option Addr) (n c:Nat) (l:List VR) (id:Int) (w:World) (h:GRow vrowF w a n c l) :
  Calls Tryz.prog 207 #[.slice a n c,.int .i64 id] w fun r w'=>r=.returned (.int .i64 (rowAt l id))∧Below w.heap.size w w':=by
 have hmf:∀(fn:Fn) (first cap:Array Value) (w:World),(Instr.makeFunc fn first cap).run Tryz.prog w=.ok (.func fn first cap) w:=fun _ _ _ _=>rfl
 have q:=zh w (.cells #[.int .i64 id] 3);go_enter Tryz.func207,Tryz.ntmps207;go_wp2_with fail
 refine (ze8 a n c l id _ _ (h.below q) (zy w _)).mono ?_;rintro r w1 ⟨rfl,hb1⟩;have HB:=hide (zd q hb1);clear hb1 q;go_wp2;go_ret;exact ⟨rfl,HB.out⟩

theorem zcq (a:Option Addr) (n c:Nat) (l:List VR) (o:Option Addr) (p q:Nat) (id:Int) (w:World) (h:GRow vrowF w a n c l) :
  Calls Tryz.prog 146 #[.agg #[.slice a n c,.slice o p q],.int .i64 id] w fun r w'=>r=.returned (.int .i64 (rowAt l id))∧Below w.heap.size w w':=by
 have q0:=zh w (.cells #[.slice a n c,.slice o p q] 29);go_enter Tryz.func146,Tryz.ntmps146;go_wp2_with fail
 refine (zbz a n c o p q _).mono ?_;rintro r w1 ⟨rfl,hb1⟩;have q1:=zd q0 hb1;clear hb1;go_wp2_with fail
 refine (zed a n c l id _ (h.below q1)).mono ?_;rintro r w2 ⟨rfl,hb2⟩;have HB:=hide (zd q1 hb2);clear hb2 q1 q0;go_wp2;go_ret;exact ⟨rfl,HB.out⟩

def I64 (x:Int):Prop := -9223372036854775808≤x∧x≤9223372036854775807

def VR.Rng (r:VR):Prop:=I64 r.i∧I64 r.m∧I64 r.b

theorem bv_of (x:Int):(BitVec.ofInt 64 x).toNat=(x % 18446744073709551616).toNat:=by
 rw [BitVec.toNat_ofInt]
 rfl

theorem zhJ (x:BitVec 64):IntKind.i64.wrap (x.toNat:Int)=x.toInt:=by
 have:=x.isLt
 rw [IntKind.wrap_i64,BitVec.toInt_eq_toNat_cond]
 split <;> omega

theorem zd8 (a b:Int):bits .and .i64 a b=(BitVec.ofInt 64 a &&& BitVec.ofInt 64 b).toInt:=by
 rw [← zhJ]
 rfl
theorem zfg (a b:Int):bits .andNot .i64 a b=(BitVec.ofInt 64 a &&& ~~~(BitVec.ofInt 64 b)).toInt:=by
 rw [← zhJ]
 rfl

theorem zgH {x:BitVec 64}:x.toInt=0↔x=0#64:=by
 rw [← BitVec.toInt_inj]
 simp

theorem zcB (x:Int) (h:I64 x):(BitVec.ofInt 64 x).toInt=x:=by
 unfold I64 at h;rw [BitVec.toInt_ofInt];rw [Int.bmod_def];omega

theorem zdO (b m:Int) (hb:I64 b):(bits .andNot .i64 b m == 0)=(bits .and .i64 b m == b):=by
 rw [zd8,zfg];have key:(BitVec.ofInt 64 b &&& ~~~(BitVec.ofInt 64 m))=0#64↔(BitVec.ofInt 64 b &&& BitVec.ofInt 64 m)=BitVec.ofInt 64 b:=by
  constructor
  ·intro h
   apply BitVec.eq_of_getLsbD_eq
   intro i hi
   have:=congrArg (fun z=>z.getLsbD i) h
   simp only [BitVec.getLsbD_and,BitVec.getLsbD_not,hi,decide_true,Bool.true_and,BitVec.getLsbD_zero] at this;simp only [BitVec.getLsbD_and];cases h1:(BitVec.ofInt 64 b).getLsbD i <;> cases h2:(BitVec.ofInt 64 m).getLsbD i <;> simp_all
  ·intro h
   apply BitVec.eq_of_getLsbD_eq
   intro i hi
   have:=congrArg (fun z=>z.getLsbD i) h
   simp only [BitVec.getLsbD_and] at this;simp only [BitVec.getLsbD_and,BitVec.getLsbD_not,hi,decide_true,Bool.true_and,BitVec.getLsbD_zero];cases h1:(BitVec.ofInt 64 b).getLsbD i <;> cases h2:(BitVec.ofInt 64 m).getLsbD i <;> simp_all
 have e2:((BitVec.ofInt 64 b &&& BitVec.ofInt 64 m).toInt=b)↔(BitVec.ofInt 64 b &&& BitVec.ofInt 64 m)=BitVec.ofInt 64 b:=by
  constructor
  ·intro h
   apply BitVec.toInt_inj.1
   rw [h,zcB b hb]
  ·intro h;rw [h,zcB b hb]
 have e1:=zgH (x:=BitVec.ofInt 64 b &&& ~~~(BitVec.ofInt 64 m));rw [Bool.eq_iff_iff];simp only [beq_iff_eq];rw [e1,key,e2]

theorem ziG (p:Nat) (hp:p≤6):(BitVec.ofInt 64 (allOf p)).toNat=2 ^ p - 1:=by
 rcases (show p=0∨p=1∨p=2∨p=3∨p=4∨p=5∨p=6 by omega) with rfl | rfl | rfl | rfl | rfl | rfl | rfl <;> rfl

theorem zhq (p:Nat) (hp:p≤6):(2:Nat) ^ p≤64∧((2:Int) ^ p=((2 ^ p:Nat):Int))∧1≤(2:Nat) ^ p:=by
 rcases (show p=0∨p=1∨p=2∨p=3∨p=4∨p=5∨p=6 by omega) with rfl | rfl | rfl | rfl | rfl | rfl | rfl <;> exact ⟨by decide,rfl,by decide⟩

theorem zff (m:Int) (p:Nat) (hm:I64 m) (hp:p≤6):(bits .andNot .i64 m (allOf p) == 0)=in3 m 0 (allOf p):=by
 rw [zdO m _ hm,zd8];have hn:(BitVec.ofInt 64 m &&& BitVec.ofInt 64 (allOf p)).toNat=(BitVec.ofInt 64 m).toNat % 2 ^ p:=by
  rw [BitVec.toNat_and,ziG p hp,Nat.and_two_pow_sub_one_eq_mod]
 have e2:((BitVec.ofInt 64 m &&& BitVec.ofInt 64 (allOf p)).toInt=m)↔(BitVec.ofInt 64 m &&& BitVec.ofInt 64 (allOf p)).toNat=(BitVec.ofInt 64 m).toNat:=by
  constructor
  ·intro h
   have:(BitVec.ofInt 64 m &&& BitVec.ofInt 64 (allOf p))=BitVec.ofInt 64 m:=by
    apply BitVec.toInt_inj.1
    rw [h,zcB m hm]
   rw [this]
  ·intro h;rw [BitVec.eq_of_toNat_eq h,zcB m hm]
 rw [Bool.eq_iff_iff];simp only [beq_iff_eq];rw [e2,hn,bv_of m];obtain ⟨h64,hc,h1⟩:=zhq p hp;unfold in3 allOf;rw [hc];unfold I64 at hm;generalize (2:Nat) ^ p=q at *;simp only [Bool.and_eq_true,decide_eq_true_eq]
 constructor
 ·intro h
  have:(m % 18446744073709551616).toNat % q < q:=Nat.mod_lt _ (by omega)
  omega
 ·intro h;rw [Nat.mod_eq_of_lt (by omega)]

theorem zgM (b m:Int) (p:Nat) (hb:I64 b) (hp:p≤6) (hm:in3 m 0 (allOf p)=true) (h:(bits .and .i64 b m == b)=true):in3 b 0 (allOf p)=true:=by
 obtain ⟨h64,hc,h1⟩:=zhq p hp;unfold in3 allOf at hm ⊢;rw [hc] at hm ⊢;generalize (2:Nat) ^ p=q at *;simp only [Bool.and_eq_true,decide_eq_true_eq,beq_iff_eq] at *;have hmI:I64 m:=by unfold I64; omega
 rw [zd8] at h;have e:(BitVec.ofInt 64 b &&& BitVec.ofInt 64 m)=BitVec.ofInt 64 b:=by
  apply BitVec.toInt_inj.1
  rw [h,zcB b hb]
 have e':=congrArg BitVec.toNat e;rw [BitVec.toNat_and,bv_of b,bv_of m] at e'
 have:(b % 18446744073709551616).toNat &&& (m % 18446744073709551616).toNat≤(m % 18446744073709551616).toNat:=Nat.and_le_right
 unfold I64 at hb;omega

theorem zhC (r:VR) (p:Nat) (hr:r.Rng) (hp:p≤6):(in3 r.i 1 99 && (bits .andNot .i64 r.m (allOf p) == 0) && (bits .andNot .i64 r.b r.m == 0))=zaT (allOf p) r:=by
 rw [zff r.m p hr.2.1 hp,zdO r.b r.m hr.2.2];unfold zaT;cases h1:in3 r.i 1 99
 ·rfl
 ·cases h2:in3 r.m 0 (allOf p)
  ·rfl
  ·cases h3:(bits .and .i64 r.b r.m == r.b)
   ·simp
   ·rw [zgM r.b r.m p hr.2.2 hp h2 h3]
    rfl

theorem zi9:(Tryz.prog.info? 113).map (fun i=>(i.zero,i.size,i.bytes))=some (some (.agg #[.bool false,.int .i64 0,.bool false,.int .i64 0,.int .i64 0,.int .i64 0,.int .i64 0,.int .i64 0]),ptF.k,64):=by kernel_rfl

theorem zcv (w:World) {ops:Array Oper} {rest:List Oper} {o:Oper} {a:Act} {Q:Exit→Act→World→Prop} (hgd:o.guard=none)
  (s x:Operand) (ho:o.op=Op.call { callee:=Callee.builtin Builtin.append,args:=#[s,x],argTypes:=#[24,24] }) (base:Nat)
  (v:Value) (n:Nat) (xs:List PT) (hs:a.eval s=v) (hown:w.ownsRow base 113 8 v n (ptF.all xs)) (ao:Option Addr) (m c:Nat) (zs:List PT)
  (hx:a.eval x=.slice ao m c) (hrow:GRow ptF w ao m c zs) (hsm:n+m≤137438953472) (hbase:base≤w.heap.size)
  (h:∀ao' cap' w',w'.ownsRow base 113 8 (.slice ao' (n+m) cap') (n+m) (ptF.all (xs++zs))→GRow ptF w' ao' (n+m) cap' (xs++zs)→w.grownBy w' v.ownBlock→Below base w w'→wpList Tryz.prog ops Q rest (a.put o.dst (.slice ao' (n+m) cap')) w') :
  wpList Tryz.prog ops Q (o::rest) a w :=
 zx (F:=ptF) w hgd s x 24 113 ho base Tryz.underlying24 zi9 rfl (by decide) v n xs hs hown ao m c zs hx hrow hsm hbase h

theorem zgC {w:World} {g:Nat} {T:TypeId} {c0 c1 c2 c3 c4 c5 c6 c7:Value} (h:w.heap[g]? = some (.cells #[c0,c1,c2,c3,c4,c5,c6,c7] T)) (u:Value):(w.setCell ⟨g,2,none⟩ u).heap[g]? = some (.cells #[c0,c1,u,c3,c4,c5,c6,c7] T):=zt (j:=2) h u

theorem zhs {w:World} {g:Nat} {T:TypeId} {c0 c1 c2 c3 c4 c5 c6 c7:Value} (h:w.heap[g]? = some (.cells #[c0,c1,c2,c3,c4,c5,c6,c7] T)) (u3 u4 u5 u6 u7:Value):(((((w.setCell ⟨g,3,none⟩ u3).setCell ⟨g,4,none⟩ u4).setCell ⟨g,5,none⟩ u5).setCell ⟨g,6,none⟩ u6).setCell ⟨g,7,none⟩ u7).heap[g]? = some (.cells #[c0,c1,c2,u3,u4,u5,u6,u7] T) :=
 zt (j:=7) (zt (j:=6) (zt (j:=5) (zt (j:=4) (zt (j:=3) h u3) u4) u5) u6) u7

theorem zad {w:World} {g:Nat} {T:TypeId} {cs:Array Value} (h:w.heap[g]? = some (.cells cs T)) (j:Nat):w.frozen? ⟨g,j,none⟩=false:=by
 simp [World.frozen?,h]

theorem zif {w:World} {base k:Nat} {e:TypeId} {v:Value} {n:Nat} {xs:List Value} (h:w.ownsRow base e k v n xs):∀b,v.ownBlock=some b→b < w.heap.size:=fun b hb=>(h.lt b hb).2

theorem BI.In.le {w:World} {x:BI} (h:x.In w):x.on≤maxLen∧x.zn≤maxLen:=⟨Nat.le_trans h.o.le h.o.top,Nat.le_trans h.z.le h.z.top⟩

def BI.wt (x:BI):Nat:=x.on+x.S.size+x.zn
def bulk (l:List BI):Nat:=(l.map BI.wt).sum
theorem zcf (a b:List BI):bulk (a++b)=bulk a+bulk b:=by simp [bulk]
theorem zc8 (x:BI) (l:List BI):bulk (x::l)=x.wt+bulk l:=by simp [bulk]
theorem zfW {l:List BI} {x:BI} (h:x∈l):x.wt≤bulk l:=by
 obtain ⟨a,b,rfl⟩:=List.append_of_mem h;rw [zcf,zc8]; omega
theorem zcA {α:Type} {l:List α} {i:Nat} {x:α} (h:l[i]? = some x):l.take (i+1)=l.take i++[x]:=by
 obtain ⟨hl,rfl⟩:=List.getElem?_eq_some_iff.1 h;rw [List.take_succ_eq_append_getElem hl]
theorem zey (l:List BI) (i:Nat):bulk (l.take i)≤bulk l:=by
 conv=>rhs; rw [← List.take_append_drop i l,zcf]
 omega
theorem ziV {l:List BI} {i:Nat} {x:BI} (h:l[i]? = some x):bulk (l.take (i+1))=bulk (l.take i)+x.wt:=by
 rw [zcA h,zcf]; simp [bulk]

def lessL:List Int→List Int→Bool
 | [],[]=>false
 | [],_::_=>true
 | _::_,[]=>false
 | x::a,y::b=>if x=y then lessL a b else decide (x < y)

theorem zg8:∀(k:Nat) (a b:List Int),a.take k=b.take k→k < a.length→k < b.length→a.getD k 0≠b.getD k 0→lessL a b=decide (a.getD k 0 < b.getD k 0)
 | _,[],_,_,h,_,_=>by simp at h
 | _,_,[],_,_,h,_=>by simp at h
 | 0,x::a,y::b,_,_,_,h=>by simp at h; simp [lessL,h]
 | k+1,x::a,y::b,ht,h1,h2,h=>by
  simp at ht h1 h2 h
  simp only [lessL,ht.1,if_true];rw [zg8 k a b ht.2 h1 h2 (by simpa using h)]
  simp

theorem zef:∀(k:Nat) (a b:List Int),a.take k=b.take k→k≤a.length→k≤b.length→(k=a.length∨k=b.length)→lessL a b=decide (a.length < b.length)
 | 0,[],[],_,_,_,_=>rfl
 | 0,[],_::_,_,_,_,_=>by simp [lessL]
 | 0,_::_,[],_,_,_,_=>by simp [lessL]
 | 0,_::_,_::_,_,_,_,h=>by simp at h
 | k+1,[],_,_,h,_,_=>by simp at h
 | k+1,_::_,[],_,_,h,_=>by simp at h
 | k+1,x::a,y::b,ht,h1,h2,h=>by
  simp at ht h1 h2 h
  simp only [lessL,ht.1,if_true];rw [zef k a b ht.2 h1 h2 h]
  simp

def zf5 (l:List BD) (o:List Int):BD:=(l.find? (fun d=>decide (d.o=o))).getD ⟨[],128,0,⟨#[]⟩,[]⟩
def zdu (l:List BD) (o:List Int):BD:=(l.find? (fun d=>lessL o d.o)).getD ⟨o,130,0,⟨#[]⟩,[]⟩

theorem zeF {α:Type} {p:α→Bool} {l:List α} (h:∀(i:Nat) x,i < l.length→l[i]? = some x→p x=false):l.find? p=none:=by
 rw [List.find?_eq_none];intro x hx;obtain ⟨i,hi⟩:=List.getElem?_of_mem hx
 have:=h i x (List.getElem?_eq_some_iff.1 hi).1 hi
 rw [this]
 decide

theorem zdd {α:Type} {p:α→Bool}:∀{l:List α} {k:Nat} {x:α},(∀(i:Nat) y,i < k→l[i]? = some y→p y=false)→l[k]? = some x→p x=true→l.find? p=some x
 | [],k,x,_,h,_=>by simp at h
 | y::l,0,x,_,h,hp=>by
  simp at h
  subst h;rw [List.find?_cons,hp]
 | y::l,k+1,x,hn,h,hp=>by
  have h0:=hn 0 y (Nat.succ_pos _) rfl;rw [List.find?_cons,h0];exact zdd (k:=k) (fun i z hi hz=>hn (i+1) z (Nat.succ_lt_succ hi) (by simpa using hz)) (by simpa using h) hp

theorem zjc {l:List BD} {o:List Int} {k:Nat} {x:BD} (hn:∀(i:Nat) y,i < k→l[i]? = some y→decide (y.o=o)=false) (h:l[k]? = some x) (hp:decide (x.o=o)=true):zf5 l o=x:=by
 unfold zf5;rw [zdd hn h hp]
 rfl
theorem zjd {l:List BD} {o:List Int} (hn:∀(i:Nat) y,i < l.length→l[i]? = some y→decide (y.o=o)=false):zf5 l o=⟨[],128,0,⟨#[]⟩,[]⟩:=by
 unfold zf5;rw [zeF hn]
 rfl
theorem zeU {l:List BD} {o:List Int} {k:Nat} {x:BD} (hn:∀(i:Nat) y,i < k→l[i]? = some y→lessL o y.o=false) (h:l[k]? = some x) (hp:lessL o x.o=true):zdu l o=x:=by
 unfold zdu;rw [zdd hn h hp]
 rfl
theorem zeV {l:List BD} {o:List Int} (hn:∀(i:Nat) y,i < l.length→l[i]? = some y→lessL o y.o=false):zdu l o=⟨o,130,0,⟨#[]⟩,[]⟩:=by
 unfold zdu;rw [zeF hn]
 rfl
theorem zeG {α:Type} {p:α→Bool} {l:List α} {k:Nat} {x:α} (hn:∀(i:Nat) y,i < k→l[i]? = some y→p y=false) (h:l[k]? = some x) (hp:p x=false):∀(i:Nat) y,i < k+1→l[i]? = some y→p y=false:=by
 intro i y hi hy;by_cases e:i=k
 ·subst e;rw [h] at hy;cases hy;exact hp
 ·exact hn i y (by omega) hy

theorem zeD (a1:Option Addr) (l1 c1:Nat) (z1:List Int) (a2:Option Addr) (l2 c2:Nat) (z2:List Int) (w:World) (h1:IRow w a1 l1 c1 z1) (h2:IRow w a2 l2 c2 z2) :
  Calls Tryz.prog 47 #[.slice a1 l1 c1,.slice a2 l2 c2] w fun e w'=>e=.returned (.bool (decide (z1=z2)))∧∃n,w'=w.drewN n:=by
 have m1:=h1.top; have m2:=h2.top; have s1:=h1.size; have s2:=h2.size; have e1:=h1.le; have e2:=h2.le
 unfold maxLen at m1 m2;by_cases hl:l1=l2
 ·subst hl;by_cases h0:l1=0
  ·subst h0;have hz:z1=z2:=by rw [List.eq_nil_of_length_eq_zero s1,List.eq_nil_of_length_eq_zero s2]
   go_enter Tryz.func47,Tryz.ntmps47;go_wp2
   go_loop [13] (fun i=>i=.int .i64 0) (fun _=>0)
   case atStart=>rfl
   case round =>
    subst hrel;go_wp2;go_ret;exact ⟨by simp,0,rfl⟩
  ·rcases h1.cell with h | ⟨b1,o1,rfl,g1⟩
   ·exact absurd h h0
   rcases h2.cell with h | ⟨b2,o2,rfl,g2⟩
   ·exact absurd h h0
   clear h1 h2;have G1:Hid (∀i,i < l1→w.cell? ⟨b1,o1+i,none⟩=some (.int .i64 (z1.getD i 0))):=g1;have G2:Hid (∀i,i < l1→w.cell? ⟨b2,o2+i,none⟩=some (.int .i64 (z2.getD i 0))):=g2;clear g1 g2;go_enter Tryz.func47,Tryz.ntmps47;go_wp2
   go_loopw [13] (fun i wr=>∃k:Nat,k≤l1∧i=.int .i64 k∧z1.take k=z2.take k∧∃n,wr=w.drewN n) (fun i _=>l1 - (intOf i).toNat)
   case atStart=>exact ⟨0,Nat.zero_le _,rfl,rfl,0,rfl⟩
   case round =>
    obtain ⟨k,hk,rfl,ht,n,rfl⟩:=hrel;have HT:Hid (z1.take k=z2.take k):=ht;clear ht;by_cases hlt:k < l1
    ·have c1:=G1.out k hlt;have c2:=G2.out k hlt;generalize hx:z1.getD k 0=x at c1;generalize hy:z2.getD k 0=y at c2;have HX:Hid (z1.getD k 0=x):=hx;have HY:Hid (z2.getD k 0=y):=hy;clear hx hy;by_cases hq:x=y
     ·subst hq;go_wp2
      go_quiet (fail)
      go_wp2
      go_roundw
      case rel=>exact ⟨k+1,by omega,by go_num,by rw [zas _ _ (by omega),zas _ _ (by omega),HT.out,HX.out,HY.out],_,rfl⟩
      case measure=>simp [intOf]; omega
     ·have hne:(x != y)=true:=by simp [hq]
      go_wp2
      go_quiet (fail)
      go_wp2;go_ret;exact ⟨zw (decide_eq_false (ne_at k (by rw [HX.out,HY.out]; exact hq))).symm,_,World.drewN_drewN _ _ _⟩
    ·go_wp2;go_ret;have hk':k=l1:=by omega
     exact ⟨zw (decide_eq_true (zdc (by omega) (by rw [s1,← hk']; exact HT.out))).symm,_,rfl⟩
 ·have hne:((l1:Int) != (l2:Int))=true:=by simp; omega
  have hz:¬z1=z2:=by intro e; rw [e] at s1; omega
  go_enter Tryz.func47,Tryz.ntmps47;go_wp2;go_ret;exact ⟨zw (decide_eq_false hz).symm,0,rfl⟩

theorem zcL (a1:Option Addr) (l1 c1:Nat) (z1:List Int) (a2:Option Addr) (l2 c2:Nat) (z2:List Int) (w:World) (h1:IRow w a1 l1 c1 z1) (h2:IRow w a2 l2 c2 z2) :
  Calls Tryz.prog 14 #[.slice a1 l1 c1,.slice a2 l2 c2] w fun e w'=>e=.returned (.bool (decide (z1=z2)))∧∃n,w'=w.drewN n:=by
 go_enter Tryz.func14,Tryz.ntmps14;go_wp2_with fail
 refine (zeD _ _ _ z1 _ _ _ z2 _ h1 h2).mono ?_;rintro e w1 ⟨rfl,n,rfl⟩;go_wp2;go_ret;exact ⟨rfl,n,rfl⟩

theorem IRow.take {w:World} {ao:Option Addr} {n c:Nat} {zs:List Int} (h:IRow w ao n c zs) (k:Nat) (hk:k≤n):IRow w ao k c (zs.take k) where
 size:=by have:=h.size; simp; omega
 le:=by have:=h.le; omega
 top:=h.top
 nil:=h.nil
 byte:=fun z hz=>h.byte z (List.mem_of_mem_take hz)
 cell:=by
  rcases h.cell with h0 | ⟨b,off,ha,hc⟩
  ·exact .inl (by omega)
  ·exact .inr ⟨b,off,ha,fun i hi=>by rw [hc i (by omega)]; simp [List.getD_eq_getElem?_getD,hi]⟩

theorem zcG (x:Int) (w:World) :
  Calls Tryz.prog 196 #[.int .i64 x] w fun e w'=>e=.returned (.bool false)∧w'=w:=by
 go_enter Tryz.func196,Tryz.ntmps196;go_wp2;go_ret;exact ⟨by simp,rfl⟩

theorem zi0 (x y:Int) (w:World) (h:x < y) :
  Calls Tryz.prog 115 #[.int .i64 x,.int .i64 y] w fun e w'=>e=.returned (.int .i64 (-1))∧w'=w:=by
 go_enter Tryz.func115,Tryz.ntmps115;go_wp2_with fail
 refine (zcG x _).mono ?_;rintro e w1 ⟨rfl,rfl⟩;go_wp2_with fail
 refine (zcG y _).mono ?_;rintro e w1 ⟨rfl,rfl⟩;go_wp2;go_ret;exact ⟨rfl,rfl⟩

theorem ziZ (x y:Int) (w:World) (h:y < x) :
  Calls Tryz.prog 115 #[.int .i64 x,.int .i64 y] w fun e w'=>e=.returned (.int .i64 1)∧w'=w:=by
 have h':¬x < y:=by omega
 go_enter Tryz.func115,Tryz.ntmps115;go_wp2_with fail
 refine (zcG x _).mono ?_;rintro e w1 ⟨rfl,rfl⟩;go_wp2_with fail
 refine (zcG y _).mono ?_;rintro e w1 ⟨rfl,rfl⟩;go_wp2;go_ret;exact ⟨rfl,rfl⟩

theorem ziY (x:Int) (w:World) :
  Calls Tryz.prog 115 #[.int .i64 x,.int .i64 x] w fun e w'=>e=.returned (.int .i64 0)∧w'=w:=by
 go_enter Tryz.func115,Tryz.ntmps115;go_wp2_with fail
 refine (zcG x _).mono ?_;rintro e w1 ⟨rfl,rfl⟩;go_wp2_with fail
 refine (zcG x _).mono ?_;rintro e w1 ⟨rfl,rfl⟩;go_wp2;go_ret;exact ⟨rfl,rfl⟩

theorem zfi (a1:Option Addr) (l1 c1:Nat) (z1:List Int) (a2:Option Addr) (l2 c2:Nat) (z2:List Int) (w:World) (h1:IRow w a1 l1 c1 z1) (h2:IRow w a2 l2 c2 z2) :
  Calls Tryz.prog 46 #[.slice a1 l1 c1,.slice a2 l2 c2] w fun e w'=>∃c:Int,e=.returned (.int .i64 c)∧lessL z1 z2=decide (c < 0)∧w'=w:=by
 have m1:=h1.top; have m2:=h2.top; have s1:=h1.size; have s2:=h2.size; have e1:=h1.le; have e2:=h2.le
 unfold maxLen at m1 m2;have hc1:=h1.cell;have hc2:=h2.cell;clear h1 h2;go_enter Tryz.func46,Tryz.ntmps46;go_wp2
 go_loop [11] (fun i=>∃k:Nat,k≤l1∧k≤l2∧i=.int .i64 k∧z1.take k=z2.take k) (fun i=>l1 - (intOf i).toNat)
 case atStart=>exact ⟨0,Nat.zero_le _,Nat.zero_le _,rfl,rfl⟩
 case round =>
  obtain ⟨k,hk,hk2,rfl,ht⟩:=hrel;have HT:=hide ht;clear ht;by_cases hlt:k < l1
  ·rcases hc1 with h0 | ⟨b,off,rfl,hc⟩
   ·omega
   have cx:=hc k hlt;clear hc;by_cases hl2:k < l2
   ·rcases hc2 with h0 | ⟨b2,off2,rfl,hc⟩
    ·omega
    have cy:=hc k hl2;clear hc;generalize hx:z1.getD k 0=x at cx;generalize hy:z2.getD k 0=y at cy;have HX:=hide hx;have HY:=hide hy;clear hx hy;by_cases hq:x=y
    ·subst hq;(go_wp2_with fail);refine (ziY x _).mono ?_;rintro e w1 ⟨rfl,rfl⟩;go_wp2
     go_round
     case rel=>exact ⟨k+1,by omega,by omega,by go_num,by rw [zas _ _ (by omega),zas _ _ (by omega),HT.out,HX.out,HY.out]⟩
     case measure=>simp [intOf]; omega
    ·have HL:Hid (lessL z1 z2=decide (x < y)):=by
      rw [← HX.out,← HY.out];exact zg8 k z1 z2 HT.out (by omega) (by omega) (by rw [HX.out,HY.out]; exact hq)
     by_cases hq2:x < y
     ·(go_wp2_with fail);refine (zi0 x y _ hq2).mono ?_;rintro e w1 ⟨rfl,rfl⟩;go_wp2;go_ret;exact ⟨-1,rfl,by rw [HL.out,decide_eq_true hq2]; rfl,rfl⟩
     ·(go_wp2_with fail);refine (ziZ x y _ (by omega)).mono ?_;rintro e w1 ⟨rfl,rfl⟩;go_wp2;go_ret;exact ⟨1,rfl,by rw [HL.out,decide_eq_false (by omega)]; rfl,rfl⟩
   ·go_wp2;go_ret;exact ⟨1,rfl,by rw [zef k z1 z2 HT.out (by omega) (by omega) (.inr (by omega)),decide_eq_false (by omega)]; rfl,rfl⟩
  ·have HL:Hid (lessL z1 z2=decide (l1 < l2)):=by
    have:=zef k z1 z2 HT.out (by omega) (by omega) (.inl (by omega))
    rw [s1,s2] at this;exact this
   by_cases hq:l1 < l2
   ·go_wp2;go_ret;exact ⟨-1,rfl,by rw [HL.out,decide_eq_true hq]; rfl,rfl⟩
   ·go_wp2;go_ret;exact ⟨0,rfl,by rw [HL.out,decide_eq_false hq]; rfl,rfl⟩

theorem zcK (a1:Option Addr) (l1 c1:Nat) (z1:List Int) (a2:Option Addr) (l2 c2:Nat) (z2:List Int) (w:World) (h1:IRow w a1 l1 c1 z1) (h2:IRow w a2 l2 c2 z2) :
  Calls Tryz.prog 13 #[.slice a1 l1 c1,.slice a2 l2 c2] w fun e w'=>e=.returned (.bool (lessL z1 z2))∧w'=w:=by
 go_enter Tryz.func13,Tryz.ntmps13;go_wp2_with fail
 refine (zfi _ _ _ z1 _ _ _ z2 _ h1 h2).mono ?_;rintro e w1 ⟨c,rfl,hc,rfl⟩;have HC:=hide hc;clear hc;go_wp2;go_ret;exact ⟨zw HC.out.symm,rfl⟩

theorem zb4 (x m:Int) (h:0≤m∧m≤9223372036854775807):0≤bits .and .i64 x m∧bits .and .i64 x m≤m:=by
 have e2:(BitVec.ofInt 64 m).toNat=m.toNat:=by
  rw [BitVec.toNat_ofInt]
  have:((2 ^ 64:Nat):Int)=18446744073709551616:=by decide
  rw [this]; omega
 have e3:((BitVec.ofInt 64 x) &&& (BitVec.ofInt 64 m)).toNat≤m.toNat:=by
  rw [BitVec.toNat_and,e2]; exact Nat.and_le_right
 have e:bits .and .i64 x m=IntKind.i64.wrap (((BitVec.ofInt 64 x) &&& (BitVec.ofInt 64 m)).toNat:Int):=rfl;rw [e,IntKind.wrap_i64];omega

theorem zcg {a b c:World} {C:Nat} (h:a.grownBy b (some C)) (k:b.grownBy c (some C)):a.grownBy c (some C) where
 os:=k.os.trans h.os
 tape:=k.tape.trans h.tape
 output:=k.output.trans h.output
 size:=Nat.le_trans h.size k.size
 block:=fun j hj hne=>(k.block j (Nat.lt_of_lt_of_le hj h.size) hne).trans (h.block j hj hne)

theorem zb7 {a b:World} (C:Nat) (h:Below a.heap.size a b):a.grownBy b (some C) where
 os:=h.os
 tape:=h.tape
 output:=h.output
 size:=h.size
 block:=fun j hj _=>h.block j hj

theorem za5 {a b:World} {C B:Nat} (h:a.grownBy b (some C)) (hB:B≤C) (hs:C≤a.heap.size):Below B a b where
 os:=h.os
 tape:=h.tape
 output:=h.output
 size:=h.size
 block:=fun j hj=>h.block j (by omega) (by intro e; cases e; omega)

theorem zdh {a b:World} {C:Nat} (h:a.grownBy b (some C)) (n:Nat):a.grownBy (b.drewN n) (some C):=⟨h.os,h.tape,h.output,h.size,h.block⟩

structure Cur (w:World) (C:Nat) (a0:Option Addr) (l0 c0:Nat) (z0:List Int):Prop where
 row:∀w',Below C w w'→Row w' a0 l0 c0 z0
 small:l0≤1048576
 here:∃i h:Int,0≤i∧i≤l0∧w.heap[C]? = some (.cells #[.slice a0 l0 c0,.int .i64 i,.int .i64 h] 157)

theorem Cur.lt {w:World} {C:Nat} {a0:Option Addr} {l0 c0:Nat} {z0:List Int} (h:Cur w C a0 l0 c0 z0):C < w.heap.size:=by
 obtain ⟨i,x,_,_,e⟩:=h.here;by_cases hlt:C < w.heap.size
 ·exact hlt
 ·rw [Array.getElem?_eq_none (by omega)] at e; cases e

theorem Cur.below {w w':World} {C:Nat} {a0:Option Addr} {l0 c0:Nat} {z0:List Int} (h:Cur w C a0 l0 c0 z0) (hb:Below w.heap.size w w'):Cur w' C a0 l0 c0 z0 where
 row:=fun w2 h2=>h.row w2 ((hb.mono (Nat.le_of_lt h.lt)).trans h2)
 small:=h.small
 here:=by
  obtain ⟨i,x,h1,h2,e⟩:=h.here;exact ⟨i,x,h1,h2,by rw [hb.block C h.lt]; exact e⟩

theorem zgV (w:World) (a0:Option Addr) (l0 c0:Nat) (z0:List Int) (x:Int) (h0:Row w a0 l0 c0 z0) (hs:l0≤1048576):Cur (w.alloc (.cells #[.slice a0 l0 c0,.int .i64 0,.int .i64 x] 157)) w.heap.size a0 l0 c0 z0 where
 row:=fun w2 h2=>h0.below (((Below.refl _ _).alloc (Nat.le_refl _) _).trans h2)
 small:=hs
 here:=⟨0,x,by omega,by omega,by show (w.heap.push _)[w.heap.size]? = _; simp⟩

theorem Cur.drew {w:World} {C:Nat} {a0:Option Addr} {l0 c0:Nat} {z0:List Int} (h:Cur w C a0 l0 c0 z0) (n:Nat):Cur (w.drewN n) C a0 l0 c0 z0:=h.below (zaj (Below.refl _ _) n)

theorem ziI (a0:Option Addr) (l0 c0:Nat) (z0:List Int) (w:World) (h0:Row w a0 l0 c0 z0) (hs:l0≤1048576) :
  Calls Tryz.prog 40 #[.slice a0 l0 c0] w fun e w'=>e=.returned (.pointer (some ⟨w.heap.size,0,none⟩))∧Cur w' w.heap.size a0 l0 c0 z0∧Below w.heap.size w w':=by
 have hby:=h0.byte;have hcell:=h0.cell;go_enter Tryz.func40,Tryz.ntmps40;go_wp2
 go_loop [3,4] (fun m i=>∃(k:Nat) (x:Int),k≤l0∧k≤4000∧i=.int .i64 k∧m=.int .i64 x∧0≤x∧x≤1073741823) (fun _ i=>l0 - (intOf i).toNat)
 case atStart=>exact ⟨0,_,Nat.zero_le _,by omega,rfl,rfl,by omega,by omega⟩
 case round =>
  obtain ⟨k,x,hk,hk4,rfl,rfl,hx0,hx1⟩:=hrel;by_cases hlt:k < l0
  ·by_cases hl4:k < 4000
   ·rcases hcell with h | ⟨b,off,rfl,hc⟩
    ·omega
    have cx:=hc k hlt;have bx:=hby.at k;clear hc;generalize z0.getD k 0=y at *;go_wp2
    go_round
    case rel=>exact ⟨k+1,_,by omega,by omega,by go_num,rfl,(zb4 (x*137+y+11) 1073741823 (by omega)).1,(zb4 (x*137+y+11) 1073741823 (by omega)).2⟩
    case measure=>simp [intOf]; omega
   ·have i1:¬(k:Int) < 4000:=by omega
    go_wp2;go_ret;exact ⟨rfl,zgV w a0 l0 c0 z0 x h0 hs,(Below.refl _ _).alloc (Nat.le_refl _) _⟩
  ·go_wp2;go_ret;exact ⟨rfl,zgV w a0 l0 c0 z0 x h0 hs,(Below.refl _ _).alloc (Nat.le_refl _) _⟩

structure Went (w w':World) (C:Nat) (a0:Option Addr) (l0 c0:Nat) (z0:List Int):Prop where
 cur:Cur w' C a0 l0 c0 z0
 grown:w.grownBy w' (some C)

theorem Cur.cells {w:World} {C:Nat} {c0 c1 c2:Value} (h:w.heap[C]? = some (.cells #[c0,c1,c2] 157)) :
  w.cell? ⟨C,0,none⟩=some c0∧w.cell? ⟨C,1,none⟩=some c1∧w.cell? ⟨C,2,none⟩=some c2∧(∀j,w.frozen? ⟨C,j,none⟩=false):=by
 refine ⟨?_, ?_, ?_,fun j => ?_⟩ <;> simp [World.cell?,World.frozen?,h]

theorem zhO {w:World} {C:Nat} {a0:Option Addr} {l0 c0:Nat} {z0:List Int} {i h:Int} (hc:Cur w C a0 l0 c0 z0) (hh:w.heap[C]? = some (.cells #[.slice a0 l0 c0,.int .i64 i,.int .i64 h] 157)) (H:Int) (hi:0≤i∧i≤l0) :
  (w.setCell ⟨C,2,none⟩ (.int .i64 H)).heap[C]? = some (.cells #[.slice a0 l0 c0,.int .i64 i,.int .i64 H] 157)∧w.grownBy (w.setCell ⟨C,2,none⟩ (.int .i64 H)) (some C)∧Cur (w.setCell ⟨C,2,none⟩ (.int .i64 H)) C a0 l0 c0 z0:=by
 have e:(w.setCell ⟨C,2,none⟩ (.int .i64 H)).heap[C]? = some (.cells #[.slice a0 l0 c0,.int .i64 i,.int .i64 H] 157):=by
  have:=hc.lt
  simp [World.setCell,Array.getElem?_modify,hh]
 have g:w.grownBy (w.setCell ⟨C,2,none⟩ (.int .i64 H)) (some C):=zbf (World.grownBy.refl _ _) 2 _;exact ⟨e,g,⟨fun w2 h2=>hc.row w2 ((za5 g (Nat.le_refl _) (Nat.le_of_lt hc.lt)).trans h2),hc.small,i,H,hi.1,hi.2,e⟩⟩

theorem zhN {w:World} {C:Nat} {a0:Option Addr} {l0 c0:Nat} {z0:List Int} {i h:Int} (hc:Cur w C a0 l0 c0 z0) (hh:w.heap[C]? = some (.cells #[.slice a0 l0 c0,.int .i64 i,.int .i64 h] 157)) (j:Int) (hj:0≤j∧j≤l0) :
  Went w (w.setCell ⟨C,1,none⟩ (.int .i64 j)) C a0 l0 c0 z0:=by
 have e:(w.setCell ⟨C,1,none⟩ (.int .i64 j)).heap[C]? = some (.cells #[.slice a0 l0 c0,.int .i64 j,.int .i64 h] 157):=by
  have:=hc.lt
  simp [World.setCell,Array.getElem?_modify,hh]
 have g:w.grownBy (w.setCell ⟨C,1,none⟩ (.int .i64 j)) (some C):=zbf (World.grownBy.refl _ _) 1 _;exact ⟨⟨fun w2 h2=>hc.row w2 ((za5 g (Nat.le_refl _) (Nat.le_of_lt hc.lt)).trans h2),hc.small,j,h,hj.1,hj.2,e⟩,g⟩

theorem zcZ (C:Nat) (a0:Option Addr) (l0 c0:Nat) (z0:List Int) (w:World) (hc:Cur w C a0 l0 c0 z0) :
  Calls Tryz.prog 181 #[.pointer (some ⟨C,0,none⟩)] w fun e w'=>∃x:Int,e=.returned (.int .i64 x)∧0≤x∧x≤255∧Went w w' C a0 l0 c0 z0:=by
 obtain ⟨i,h,hi0,hi1,hh⟩:=hc.here;obtain ⟨k0,k1,k2,kf⟩:=Cur.cells hh;have kf2:=kf 2;clear kf;obtain ⟨k,rfl⟩:∃k:Nat,i=k:=⟨i.toNat,by omega⟩;go_enter Tryz.func181,Tryz.ntmps181;go_wp2;generalize wrap64 (wrap64 (h*6364136223846793005)+1442695040888963407)=H;have st:=zhO hc hh H ⟨hi0,hi1⟩;generalize w.setCell ⟨C,2,none⟩ (.int .i64 H)=W at *;obtain ⟨hW,hg,hcw⟩:=st;clear k0 k1 k2 kf2 hh hc;obtain ⟨k0,k1,k2,kf⟩:=Cur.cells hW;have kf1:=kf 1;clear kf;have hrow:=hcw.row W (Below.refl _ _);have hl0:=hcw.small;have hby:=hrow.byte;have hcell:=hrow.cell
 go_quiet (fail)
 go_wp2;have hx:=zb4 (bits BinOp.xor IntKind.i64 (H / 8589934592) (H / 140737488355328)) 255 (by omega);generalize bits BinOp.and IntKind.i64 (bits BinOp.xor IntKind.i64 (H / 8589934592) (H / 140737488355328)) 255=x at *;by_cases hlt:k < l0
 ·rcases hcell with h | ⟨b,off,rfl,hc⟩
  ·omega
  have cx:=hc k hlt;have bx:=hby.at k;clear hc;generalize z0.getD k 0=y at *;have g1:(k:Int) < l0:=by omega
  go_quiet (fail)
  go_wp2
  go_quiet (fail)
  go_wp2;go_ret;refine ⟨_,rfl,(zb4 _ 255 (by omega)).1,(zb4 _ 255 (by omega)).2, ?_⟩;have t:=fun n=>zhN (hcw.drew n) (by exact hW) ((k:Int)+1) (by omega)
  exact ⟨(t _).cur,zcg (zdh hg _) (t _).grown⟩
 ·have g1:¬(k:Int) < l0:=by omega
  go_quiet (fail)
  go_wp2;go_ret;exact ⟨x,rfl,hx.1,hx.2,hcw.drew _,zdh hg _⟩

theorem zf7 (x n:Int) (hx:0≤x) (hn:0 < n):0≤x % n∧x % n < n∧x % n≤x:=by
 refine ⟨Int.emod_nonneg _ (by omega),Int.emod_lt_of_pos _ hn, ?_⟩;have h1:=Int.emod_add_mul_ediv x n;have h2:0≤x / n:=Int.ediv_nonneg hx (by omega);have h3:0≤n*(x / n):=Int.mul_nonneg (by omega) h2;omega

theorem Went.trans {a b c:World} {C:Nat} {a0:Option Addr} {l0 c0:Nat} {z0:List Int} (h:Went a b C a0 l0 c0 z0) (k:Went b c C a0 l0 c0 z0):Went a c C a0 l0 c0 z0:=⟨k.cur,zcg h.grown k.grown⟩

theorem Went.made {a b c:World} {C:Nat} {a0:Option Addr} {l0 c0:Nat} {z0:List Int} (h:Went a b C a0 l0 c0 z0) (k:Below b.heap.size b c):Went a c C a0 l0 c0 z0:=⟨h.cur.below k,zcg h.grown (zb7 C k)⟩

theorem Went.start {a b:World} {C:Nat} {a0:Option Addr} {l0 c0:Nat} {z0:List Int} (h:Cur a C a0 l0 c0 z0) (k:Below a.heap.size a b):Went a b C a0 l0 c0 z0:=⟨h.below k,zb7 C k⟩

theorem zI (C:Nat) (a0:Option Addr) (l0 c0:Nat) (z0:List Int) (n:Int) (w:World) (hc:Cur w C a0 l0 c0 z0) (hn:n≤1099511627776) :
  Calls Tryz.prog 104 #[.pointer (some ⟨C,0,none⟩),.int .i64 n] w fun e w'=>∃x:Int,e=.returned (.int .i64 x)∧0≤x∧(0 < n→x < n)∧x≤16777215∧Went w w' C a0 l0 c0 z0:=by
 by_cases k0:n≤0
 ·go_enter Tryz.func104,Tryz.ntmps104;go_wp2;go_ret;exact ⟨0,rfl,by omega,by omega,by omega,Went.start hc (Below.refl _ _)⟩
 by_cases k1:n≤256
 ·go_enter Tryz.func104,Tryz.ntmps104;(go_wp2_with fail);refine (zcZ C a0 l0 c0 z0 _ hc).mono ?_;rintro e w1 ⟨x,rfl,hx0,hx1,went⟩;have hne:(n == 0)=false:=by simp; omega
  go_wp2;go_ret;exact ⟨_,rfl,(zf7 x n hx0 (by omega)).1,fun _=>(zf7 x n hx0 (by omega)).2.1,by have:=(zf7 x n hx0 (by omega)).2.2; omega,went⟩
 ·go_enter Tryz.func104,Tryz.ntmps104;(go_wp2_with fail);refine (zcZ C a0 l0 c0 z0 _ hc).mono ?_;rintro e w1 ⟨x,rfl,hx0,hx1,went1⟩;(go_wp2_with fail);refine (zcZ C a0 l0 c0 z0 _ went1.cur).mono ?_;rintro e w2 ⟨y,rfl,hy0,hy1,went2⟩;(go_wp2_with fail);refine (zcZ C a0 l0 c0 z0 _ went2.cur).mono ?_;rintro e w3 ⟨z,rfl,hz0,hz1,went3⟩;have hne:(n == 0)=false:=by simp; omega
  go_wp2;go_ret;have hm:=zf7 (x*65536+y*256+z) n (by omega) (by omega);exact ⟨_,rfl,hm.1,fun _=>hm.2.1,by omega,(went1.trans went2).trans went3⟩

theorem zc2 (C:Nat) (a0:Option Addr) (l0 c0:Nat) (z0:List Int) (n:Int) (w:World) (hc:Cur w C a0 l0 c0 z0) (hn:n≤1099511627776) :
  Calls Tryz.prog 69 #[.pointer (some ⟨C,0,none⟩),.int .i64 n] w fun e w'=>∃x:Bool,e=.returned (.bool x)∧Went w w' C a0 l0 c0 z0:=by
 go_enter Tryz.func69,Tryz.ntmps69;go_wp2_with fail
 refine (zI C a0 l0 c0 z0 n _ hc hn).mono ?_;rintro e w1 ⟨x,rfl,hx0,hx1,hx2,went⟩;go_wp2;go_ret;exact ⟨_,rfl,went⟩

theorem zh0 (w:World) (xs:List Int) (j:Nat) (hj:j < xs.length):(w.alloc (.cells (xs.map (Value.int .i64)).toArray 3)).cell? ⟨w.heap.size,j,none⟩=some (.int .i64 (xs.getD j 0)):=by
 have:(w.alloc (.cells (xs.map (Value.int .i64)).toArray 3)).cell? ⟨w.heap.size,j,none⟩=(xs.map (Value.int .i64)).toArray[j]? := by simp
 rw [this]
 simp [hj]

theorem ziF (C:Nat) (a0:Option Addr) (l0 c0:Nat) (z0:List Int) (B n:Nat) (xs:List Int) (w:World) (hc:Cur w C a0 l0 c0 z0) (hB:C < B) (hcell:∀j,j < n→w.cell? ⟨B,j,none⟩=some (.int .i64 (xs.getD j 0))) (hxs:xs.length=n) (hn0:0 < n) (hn:n≤1000) :
  Calls Tryz.prog 112 #[.pointer (some ⟨C,0,none⟩),.slice (some ⟨B,0,none⟩) n n] w fun e w'=>∃x:Int,x∈xs∧e=.returned (.int .i64 x)∧Went w w' C a0 l0 c0 z0:=by
 have HC:=hide hcell;clear hcell;go_enter Tryz.func112,Tryz.ntmps112;go_wp2_with fail
 refine (zI C a0 l0 c0 z0 n _ hc (by omega)).mono ?_;rintro e w1 ⟨x,rfl,hx0,hx1,hx2,went⟩;have hx1:=hx1 (by omega);obtain ⟨j,rfl⟩:∃j:Nat,x=j:=⟨x.toNat,by omega⟩;have cx:w1.cell? ⟨B,j,none⟩=some (.int .i64 (xs.getD j 0)):=went.grown.cell (HC.out j (by omega)) (by intro e; simp at e; omega);have hm:xs.getD j 0∈xs:=by
  rw [List.getD_eq_getElem?_getD,List.getElem?_eq_getElem (by omega)]; exact List.getElem_mem _
 generalize xs.getD j 0=y at *;go_wp2;go_ret;exact ⟨y,hm,rfl,went⟩

theorem Cur.belowAt {w w':World} {C B:Nat} {a0:Option Addr} {l0 c0:Nat} {z0:List Int} (h:Cur w C a0 l0 c0 z0) (hb:Below B w w') (hC:C < B):Cur w' C a0 l0 c0 z0 where
 row:=fun w2 h2=>h.row w2 ((hb.mono (Nat.le_of_lt hC)).trans h2)
 small:=h.small
 here:=by
  obtain ⟨i,x,h1,h2,e⟩:=h.here;exact ⟨i,x,h1,h2,by rw [hb.block C hC]; exact e⟩

theorem Went.madeAt {a b c:World} {C B:Nat} {a0:Option Addr} {l0 c0:Nat} {z0:List Int} (h:Went a b C a0 l0 c0 z0) (k:Below B b c) (hC:C < B) (hB:a.heap.size≤B):Went a c C a0 l0 c0 z0 where
 cur:=h.cur.belowAt k hC
 grown:=⟨k.os.trans h.grown.os,k.tape.trans h.grown.tape,k.output.trans h.grown.output,Nat.le_trans h.grown.size k.size,fun j hj hne=>(k.block j (by omega)).trans (h.grown.block j hj hne)⟩

theorem Went.own {a b:World} {C:Nat} {a0:Option Addr} {l0 c0:Nat} {z0:List Int} (h:Went a b C a0 l0 c0 z0) {base:Nat} {v:Value} {n:Nat} {xs:List Value} (ho:a.ownsRow base 5 1 v n xs) (hC:C < base):b.ownsRow base 5 1 v n xs :=
 ze0 ho h.grown (by intro k hk; cases hk; exact hC)

theorem zbw (C:Nat) (a0:Option Addr) (l0 c0:Nat) (z0:List Int) (xs:List Int) (B n:Nat) (w:World) (hc:Cur w C a0 l0 c0 z0) (hB:B=w.heap.size) (hxs:xs.length=n) (hn0:0 < n) (hn:n≤1000) :
  Calls Tryz.prog 112 #[.pointer (some ⟨C,0,none⟩),.slice (some ⟨B,0,none⟩) n n] (w.alloc (.cells (xs.map (Value.int .i64)).toArray 3)) fun e w'=>∃x:Int,x∈xs∧e=.returned (.int .i64 x)∧Went w w' C a0 l0 c0 z0:=by
 subst hB hxs;have hb:Below w.heap.size w (w.alloc (.cells (xs.map (Value.int .i64)).toArray 3)):=(Below.refl _ _).alloc (Nat.le_refl _) _;refine (ziF C a0 l0 c0 z0 w.heap.size xs.length xs _ (hc.below hb) hc.lt (fun j hj=>zh0 w xs j hj) rfl hn0 hn).mono ?_;rintro e w' ⟨x,hx,rfl,went⟩;exact ⟨x,hx,rfl,(Went.start hc hb).trans went⟩

theorem zg6 (C:Nat) (a0:Option Addr) (l0 c0:Nat) (z0:List Int) (w:World) (hc:Cur w C a0 l0 c0 z0) :
  Calls Tryz.prog 183 #[.pointer (some ⟨C,0,none⟩)] w fun e w'=>∃(R K H B P:Int),e=.returned (.agg #[.int .i64 R,.int .i64 K,.int .i64 H,.int .i64 B,.int .i64 P])∧okVc R K H B P=true∧Went w w' C a0 l0 c0 z0:=by
 have hlt:=hc.lt;have q0:=zh w (.cells #[.int .i64 0,.int .i64 0,.int .i64 0,.int .i64 0,.int .i64 0] 111);have wn0:=Went.start hc q0;have hk0:=zy w (.cells #[.int .i64 0,.int .i64 0,.int .i64 0,.int .i64 0,.int .i64 0] 111);go_enter Tryz.func183,Tryz.ntmps183;go_wp2_with fail
 refine (zI C a0 l0 c0 z0 5 _ wn0.cur (by omega)).mono ?_;rintro e w1 ⟨r1,rfl,hx1,hy1,-,went1⟩;have hy1:=hy1 (by omega);have wn1:=wn0.trans went1;have k1:=zr hk0 went1.grown (fun j hj=>by cases hj; omega);clear wn0 went1 hk0;go_wp2_with fail
 refine (zbw C a0 l0 c0 z0 [0,1,2,5,10,100] _ _ w1 wn1.cur rfl rfl (by simp) (by simp)).mono ?_;rintro e w2 ⟨K,hK,rfl,went2⟩;have HK:Hid (0≤K∧K≤100):=hide (by simp at hK; omega);clear hK;have wn2:=wn1.trans went2;have k2:=zr k1 went2.grown (fun j hj=>by cases hj; omega);clear wn1 went2 k1;go_wp2_with fail
 refine (zbw C a0 l0 c0 z0 [0,1,2,9,10] _ _ w2 wn2.cur rfl rfl (by simp) (by simp)).mono ?_;rintro e w3 ⟨H,hH,rfl,went3⟩;have HH:Hid (0≤H∧H≤10):=hide (by simp at hH; omega);clear hH;have wn3:=wn2.trans went3;have k3:=zr k2 went3.grown (fun j hj=>by cases hj; omega);clear wn2 went3 k2;go_wp2_with fail
 refine (zI C a0 l0 c0 z0 5 _ wn3.cur (by omega)).mono ?_;rintro e w4 ⟨r4,rfl,hx4,hy4,-,went4⟩;have hy4:=hy4 (by omega);have wn4:=wn3.trans went4;have k4:=zr k3 went4.grown (fun j hj=>by cases hj; omega);clear wn3 went4 k3;go_wp2_with fail
 refine (zI C a0 l0 c0 z0 4 _ wn4.cur (by omega)).mono ?_;rintro e w5 ⟨r5,rfl,hx5,hy5,-,went5⟩;have hy5:=hy5 (by omega);have HOK:Hid (okVc (1+r1) K H (1+r4) r5=true):=hide (by have h1:=HK.out; have h2:=HH.out; unfold okVc; simp; omega);have wn5:=wn4.trans went5;have k5:=zr k4 went5.grown (fun j hj=>by cases hj; omega);obtain ⟨⟨x0,x1,x2,x3,x4⟩,f0,f1,f2,f3,f4⟩:=zo k5;clear wn4 went5 k4 k5;go_wp2;exact bodyPost_ret (v:=.agg #[.int .i64 (1+r1),.int .i64 K,.int .i64 H,.int .i64 (1+r4),.int .i64 r5]) (by simp [results,Tryz.results183,go_sem, *]) rfl ⟨_,_,_,_,_,rfl,HOK.out,wn5.madeAt (zP (Below.refl _ _) (Nat.le_refl w.heap.size) _ _ _ _ _) hlt (Nat.le_refl _)⟩

theorem zfr (C:Nat) (a0:Option Addr) (l0 c0:Nat) (z0:List Int) (N:Int) (m:Nat) (w:World) (hc:Cur w C a0 l0 c0 z0) (hN:N=m) (hm:m≤1000) :
  Calls Tryz.prog 107 #[.pointer (some ⟨C,0,none⟩),.int .i64 N] w fun e w'=>∃(ao:Option Addr) (cap:Nat) (l:List PT),e=.returned (.slice ao m cap)∧l.length=m∧(∀x∈l,ptOk x=true)∧w'.ownsRow w.heap.size 113 8 (.slice ao m cap) m (ptF.all l)∧Went w w' C a0 l0 c0 z0:=by
 subst hN;have hlt:=hc.lt;go_enter Tryz.func107,Tryz.ntmps107;go_wp2_with fail
 generalize hw1:w.alloc (Obj.cells #[] 113)=w1;have b1:=zb hw1;have o1:w1.ownsRow w.heap.size 113 8 (.slice (some ⟨w.heap.size,0,none⟩) 0 0) 0 (ptF.all []):=za7 ptF w w1 113 w.heap.size (zk hw1) (Nat.le_refl _);have wn1:=Went.start hc b1;clear hw1 b1
 go_loopw [5,6] (fun o i wr=>∃(k:Nat) (ao:Option Addr) (cap:Nat) (l:List PT),k≤m∧i=.int .i64 k∧o=.slice ao k cap∧l.length=k∧(∀x∈l,ptOk x=true)∧wr.ownsRow w.heap.size 113 8 (.slice ao k cap) k (ptF.all l)∧Went w wr C a0 l0 c0 z0) (fun _ i _=>m - (intOf i).toNat)
 case atStart=>exact ⟨0,_,_,[],Nat.zero_le _,rfl,rfl,rfl,(by intro x hx; cases hx),o1,wn1⟩
 case round =>
  obtain ⟨k,ao,cap,l,hk,rfl,rfl,hl,hall,o2,wn2⟩:=hrel;have HA:=hide hall;clear hall;clear wn1 o1;have HL:=hide hl;clear hl;by_cases hk0:k < m
  ·(go_wp2_with fail);refine (zc2 C a0 l0 c0 z0 4 _ wn2.cur (by omega)).mono ?_;rintro e w3 ⟨q,rfl,wt⟩;have wn3:=wn2.trans wt;have o3:=zM o2 wt.grown (fun b hb=>by cases hb; exact hlt);clear wt wn2 o2;(go_wp2_with fail);refine (zbw C a0 l0 c0 z0 [1,1,2,5,10] _ _ w3 wn3.cur rfl rfl (by simp) (by simp)).mono ?_;rintro e w4 ⟨K,hK,rfl,wt⟩;have HK:Hid ((decide (1≤K) && decide (K≤1000))=true):=hide (by simp at hK; simp; omega);clear hK;have wn4:=wn3.trans wt;have o4:=zM o3 wt.grown (fun b hb=>by cases hb; exact hlt);clear wt wn3 o3;have ob:=hide (zif o4);have hX:w.heap.size≤w4.heap.size:=wn4.grown.size;have HX:=hide hX;have hCX:C≠w4.heap.size:=by omega
   have HCX:=hide hCX;clear hX hCX;cases q
   ·(go_upto_region 6 with fail);generalize hw5:w4.alloc (.cells #[.bool true,.int .i64 K,.bool false,.int .i64 0,.int .i64 0,.int .i64 0,.int .i64 0,.int .i64 0] 113)=w5;have b5:=zb hw5;have kX:=zk hw5;have o5:=zm o4 b5;have wn5:=wn4.made b5;obtain ⟨d0,d1,d2,d3,d4,d5,d6,d7⟩:=zbQ kX;clear o4 wn4 b5;(go_wp2_with fail);refine (zc2 C a0 l0 c0 z0 4 _ wn5.cur (by omega)).mono ?_;rintro e w6 ⟨r,rfl,wt⟩;have wn6:=wn5.trans wt;have o6:=zM o5 wt.grown (fun b hb=>by cases hb; exact hlt);have kX:=zr kX wt.grown (fun i e=>by cases e; exact HCX.out);clear wt wn5 o5 hw5 d0 d1 d2 d3 d4 d5 d6 d7;cases r
    ·obtain ⟨d0,d1,d2,d3,d4,d5,d6,d7⟩:=zbQ kX;have f2:=zad kX 2;generalize hw7:w6.setCell ⟨w4.heap.size,2,none⟩ (.bool true)=w7;have kY:w7.heap[w4.heap.size]? = some (.cells #[.bool true,.int .i64 K,.bool true,.int .i64 0,.int .i64 0,.int .i64 0,.int .i64 0,.int .i64 0] 113):=by rw [← hw7]; exact zgC kX _
     have o7:=zC o6 (zl (rb:=w4.heap.size) 2 (.bool true)) (fun b hb=>Nat.ne_of_lt (ob.out b hb));rw [hw7] at o7;have wn7:=wn6.madeAt (zi (Below.refl w.heap.size w6) (g:=w4.heap.size) HX.out 2 (.bool true)) hlt (Nat.le_refl _);rw [hw7] at wn7;clear wn6 o6 kX;(go_wp2_with fail);refine (zg6 C a0 l0 c0 z0 _ wn7.cur).mono ?_;rintro e w8 ⟨vr,vc,vh,vb,vp,rfl,hok,wt⟩;have HV:=hide hok;clear hok;have wn8:=wn7.trans wt;have o8:=zM o7 wt.grown (fun b hb=>by cases hb; exact hlt);have kX:=zr kY wt.grown (fun i e=>by cases e; exact HCX.out);clear wt wn7 o7 hw7 kY d0 d1 d2 d3 d4 d5 d6 d7 f2;obtain ⟨d0,d1,d2,d3,d4,d5,d6,d7⟩:=zbQ kX;have f3:=zad kX 3;have f4:=zad kX 4;have f5:=zad kX 5;have f6:=zad kX 6;have f7:=zad kX 7;generalize hw9:((((w8.setCell ⟨w4.heap.size,3,none⟩ (.int .i64 vr)).setCell ⟨w4.heap.size,4,none⟩ (.int .i64 vc)).setCell ⟨w4.heap.size,5,none⟩ (.int .i64 vh)).setCell ⟨w4.heap.size,6,none⟩ (.int .i64 vb)).setCell ⟨w4.heap.size,7,none⟩ (.int .i64 vp)=w9;have kY:w9.heap[w4.heap.size]? = some (.cells #[.bool true,.int .i64 K,.bool true,.int .i64 vr,.int .i64 vc,.int .i64 vh,.int .i64 vb,.int .i64 vp] 113):=by rw [← hw9]; exact zhs kX _ _ _ _ _
     have hne:∀b,(Value.slice ao k cap).ownBlock=some b→b≠w4.heap.size:=fun b hb=>Nat.ne_of_lt (ob.out b hb)
     have o9':=zC (zC (zC (zC (zC o8 (zl (rb:=w4.heap.size) 3 (.int .i64 vr)) hne) (zl (rb:=w4.heap.size) 4 (.int .i64 vc)) hne) (zl (rb:=w4.heap.size) 5 (.int .i64 vh)) hne) (zl (rb:=w4.heap.size) 6 (.int .i64 vb)) hne) (zl (rb:=w4.heap.size) 7 (.int .i64 vp)) hne;rw [hw9] at o9';have wn9:=wn8.madeAt (zi (zi (zi (zi (zi (Below.refl w.heap.size w8) (g:=w4.heap.size) HX.out 3 (.int .i64 vr)) HX.out 4 (.int .i64 vc)) HX.out 5 (.int .i64 vh)) HX.out 6 (.int .i64 vb)) HX.out 7 (.int .i64 vp)) hlt (Nat.le_refl _);rw [hw9] at wn9;clear wn8 o8 kX hne;(go_upto_region 9 with fail);clear d0 d1 d2 d3 d4 d5 d6 d7 f3 f4 f5 f6 f7 hw9;have HCS:Hid (#[Value.bool true,.int .i64 K,.bool true,.int .i64 vr,.int .i64 vc,.int .i64 vh,.int .i64 vb,.int .i64 vp].toList=ptF.cs ⟨true,K,true,⟨vr,vc,vh,vb,vp⟩⟩):=hide rfl;obtain ⟨d0,d1,d2,d3,d4,d5,d6,d7⟩:=zbQ kY;have o9:=zm o9' (zh w9 (.cells #[.bool true,.int .i64 K,.bool true,.int .i64 vr,.int .i64 vc,.int .i64 vh,.int .i64 vb,.int .i64 vp] 113));have hbase9:w.heap.size≤(w9.alloc (.cells #[.bool true,.int .i64 K,.bool true,.int .i64 vr,.int .i64 vc,.int .i64 vh,.int .i64 vb,.int .i64 vp] 113)).heap.size:=by have:=wn9.grown.size; simp; omega
     have HW9:Hid (Went w (w9.alloc (.cells #[.bool true,.int .i64 K,.bool true,.int .i64 vr,.int .i64 vc,.int .i64 vh,.int .i64 vb,.int .i64 vp] 113)) C a0 l0 c0 z0):=hide (wn9.made (zh w9 _));go_wp2_with (at_builtin; refine zcv _ rfl _ _ rfl w.heap.size _ k l rfl o9 _ 1 1 [⟨true,K,true,⟨vr,vc,vh,vb,vp⟩⟩] rfl (zau ptF _ _ _ _ HCS.out) (by omega) hbase9 ?_)
     rintro ao' cap' wz oz - gz bz;have HO:=hide oz;have HWZ:=hide (HW9.out.madeAt bz hlt (Nat.le_refl _));have HLN:Hid ((l++[(⟨true,K,true,⟨vr,vc,vh,vb,vp⟩⟩:PT)]).length=k+1):=hide (by simp [HL.out]);have HAN:Hid (∀y∈l++[(⟨true,K,true,⟨vr,vc,vh,vb,vp⟩⟩:PT)],ptOk y=true):=hide (by
      intro y hy;rcases List.mem_append.1 hy with hy | hy
      ·exact HA.out y hy
      ·have e:y=_:=List.mem_singleton.1 hy;subst e;unfold ptOk
       simp only
       rw [HK.out];exact HV.out)
     clear oz gz bz o9 hbase9 d0 d1 d2 d3 d4 d5 d6 d7;go_wp2
     go_roundw
     case rel=>exact ⟨k+1,ao',cap',_,by omega,by go_num,rfl,HLN.out,HAN.out,HO.out,HWZ.out⟩
     case measure=>simp [intOf]; omega
    ·(go_upto_region 9 with fail);have HCS:Hid (#[Value.bool true,.int .i64 K,.bool false,.int .i64 0,.int .i64 0,.int .i64 0,.int .i64 0,.int .i64 0].toList=ptF.cs ⟨true,K,false,⟨0,0,0,0,0⟩⟩):=hide rfl;obtain ⟨d0,d1,d2,d3,d4,d5,d6,d7⟩:=zbQ kX;have o9:=zm o6 (zh w6 (.cells #[.bool true,.int .i64 K,.bool false,.int .i64 0,.int .i64 0,.int .i64 0,.int .i64 0,.int .i64 0] 113));have hbase9:w.heap.size≤(w6.alloc (.cells #[.bool true,.int .i64 K,.bool false,.int .i64 0,.int .i64 0,.int .i64 0,.int .i64 0,.int .i64 0] 113)).heap.size:=by have:=wn6.grown.size; simp; omega
     have HW9:Hid (Went w (w6.alloc (.cells #[.bool true,.int .i64 K,.bool false,.int .i64 0,.int .i64 0,.int .i64 0,.int .i64 0,.int .i64 0] 113)) C a0 l0 c0 z0):=hide (wn6.made (zh w6 _));go_wp2_with (at_builtin; refine zcv _ rfl _ _ rfl w.heap.size _ k l rfl o9 _ 1 1 [⟨true,K,false,⟨0,0,0,0,0⟩⟩] rfl (zau ptF _ _ _ _ HCS.out) (by omega) hbase9 ?_)
     rintro ao' cap' wz oz - gz bz;have HO:=hide oz;have HWZ:=hide (HW9.out.madeAt bz hlt (Nat.le_refl _));have HLN:Hid ((l++[(⟨true,K,false,⟨0,0,0,0,0⟩⟩:PT)]).length=k+1):=hide (by simp [HL.out]);have HAN:Hid (∀y∈l++[(⟨true,K,false,⟨0,0,0,0,0⟩⟩:PT)],ptOk y=true):=hide (by
      intro y hy;rcases List.mem_append.1 hy with hy | hy
      ·exact HA.out y hy
      ·have e:y=_:=List.mem_singleton.1 hy;subst e;unfold ptOk
       simp only
       rw [HK.out]
       rfl)
     clear oz gz bz o9 hbase9 d0 d1 d2 d3 d4 d5 d6 d7;go_wp2
     go_roundw
     case rel=>exact ⟨k+1,ao',cap',_,by omega,by go_num,rfl,HLN.out,HAN.out,HO.out,HWZ.out⟩
     case measure=>simp [intOf]; omega
   ·(go_upto_region 6 with fail);generalize hw5:w4.alloc (.cells #[.bool false,.int .i64 K,.bool false,.int .i64 0,.int .i64 0,.int .i64 0,.int .i64 0,.int .i64 0] 113)=w5;have b5:=zb hw5;have kX:=zk hw5;have o5:=zm o4 b5;have wn5:=wn4.made b5;obtain ⟨e0,e1,e2,e3,e4,e5,e6,e7⟩:=zbQ kX;clear o4 wn4 b5;(go_upto_region 9 with fail);clear e0 e1 e2 e3 e4 e5 e6 e7 hw5;have HCS:Hid (#[Value.bool false,.int .i64 K,.bool false,.int .i64 0,.int .i64 0,.int .i64 0,.int .i64 0,.int .i64 0].toList=ptF.cs ⟨false,K,false,⟨0,0,0,0,0⟩⟩):=hide rfl;obtain ⟨d0,d1,d2,d3,d4,d5,d6,d7⟩:=zbQ kX;have o9:=zm o5 (zh w5 (.cells #[.bool false,.int .i64 K,.bool false,.int .i64 0,.int .i64 0,.int .i64 0,.int .i64 0,.int .i64 0] 113));have hbase9:w.heap.size≤(w5.alloc (.cells #[.bool false,.int .i64 K,.bool false,.int .i64 0,.int .i64 0,.int .i64 0,.int .i64 0,.int .i64 0] 113)).heap.size:=by have:=wn5.grown.size; simp; omega
    have HW9:Hid (Went w (w5.alloc (.cells #[.bool false,.int .i64 K,.bool false,.int .i64 0,.int .i64 0,.int .i64 0,.int .i64 0,.int .i64 0] 113)) C a0 l0 c0 z0):=hide (wn5.made (zh w5 _));go_wp2_with (at_builtin; refine zcv _ rfl _ _ rfl w.heap.size _ k l rfl o9 _ 1 1 [⟨false,K,false,⟨0,0,0,0,0⟩⟩] rfl (zau ptF _ _ _ _ HCS.out) (by omega) hbase9 ?_)
    rintro ao' cap' wz oz - gz bz;have HO:=hide oz;have HWZ:=hide (HW9.out.madeAt bz hlt (Nat.le_refl _));have HLN:Hid ((l++[(⟨false,K,false,⟨0,0,0,0,0⟩⟩:PT)]).length=k+1):=hide (by simp [HL.out]);have HAN:Hid (∀y∈l++[(⟨false,K,false,⟨0,0,0,0,0⟩⟩:PT)],ptOk y=true):=hide (by
     intro y hy;rcases List.mem_append.1 hy with hy | hy
     ·exact HA.out y hy
     ·have e:y=_:=List.mem_singleton.1 hy;subst e;unfold ptOk
      simp only
      rw [HK.out]
      rfl)
    clear oz gz bz o9 hbase9 d0 d1 d2 d3 d4 d5 d6 d7;go_wp2
    go_roundw
    case rel=>exact ⟨k+1,ao',cap',_,by omega,by go_num,rfl,HLN.out,HAN.out,HO.out,HWZ.out⟩
    case measure=>simp [intOf]; omega
  ·have hkm:k=m:=by omega
   subst hkm;go_wp2;go_ret;exact ⟨ao,cap,l,rfl,HL.out,HA.out,o2,wn2⟩

theorem GRow.take {α:Type} {F:Flat α} {w:World} {ao:Option Addr} {n c k:Nat} {l:List α} (h:GRow F w ao n c l) (hk:k≤n):GRow F w ao k c (l.take k) where
 size:=by have:=h.size; simp; omega
 le:=Nat.le_trans hk h.le
 top:=h.top
 nil:=h.nil
 cell:=by
  rcases h.cell with h0 | ⟨b,off,ha,hc⟩
  ·exact .inl (by omega)
  ·refine .inr ⟨b,off,ha,fun i x hi j v hv=>hc i x ?_ j v hv⟩;rw [List.getElem?_take] at hi
   split at hi
   ·exact hi
   ·cases hi

end Go.Proofs.YtcpdkcdfnpcemaaGreat
