/-
  Packed: VlanRow VlanBits PtApp PduHelp PduEq VrowHelp PtHelp PtMark VtabOpen PtOpen.
-/
import Derived.Test.YtcpdkcdfnpcemabGreatPGK03
import Derived.ProofKit
import Derived.OpenShut
import Derived.ShutString
import Derived.ChangeOld
namespace Go.Proofs.YtcpdkcdfnpcemabGreat
set_option maxRecDepth 100000
set_option maxHeartbeats 16000000
open Go.RowKit

theorem cell1 {w:World} {g:Nat} {T:TypeId} {v:Value} (h:w.heap[g]? = some (.cells #[v] T)):w.cell? ⟨g,0,none⟩=some v:=by simp [World.cell?,h]

theorem zdF (v:Value) (w:World):(method 364 113 v "loop.example/g00326/impl.number").run Tryz.prog w=.ok (251,v) w:=by kernel_rfl

theorem zal (r:VR) (w:World):Calls Tryz.prog 251 #[.agg #[.int .i64 r.i,.int .i64 r.m,.int .i64 r.b]] w fun e w'=>e=.returned (.int .i64 r.i)∧Below w.heap.size w w':=by
 go_enter Tryz.func251,Tryz.ntmps251;go_wp2;go_ret;exact ⟨rfl,zg _ _⟩

theorem zaU (a:Option Addr) (n c:Nat) (o:Option Addr) (p q:Nat) (w:World):Calls Tryz.prog 146 #[.agg #[.slice a n c,.slice o p q]] w fun e w'=>e=.returned (.slice a n c)∧Below w.heap.size w w':=by
 go_enter Tryz.func146,Tryz.ntmps146;go_wp2;go_ret;exact ⟨rfl,zg _ _⟩

theorem zbq (r:VR) (id:Int) (g:Nat) (w:World) (c:w.heap[g]? = some (.cells #[.int .i64 id] 3)) :
  Calls Tryz.prog 211 #[.agg #[.int .i64 r.i,.int .i64 r.m,.int .i64 r.b],.pointer (some ⟨g,0,none⟩)] w fun e w'=>e=.returned (.bool (r.i == id))∧Below w.heap.size w w':=by
 have hm:=zdF;generalize hw1:w.alloc (Obj.cells #[.int .i64 r.i,.int .i64 r.m,.int .i64 r.b] 113)=w1;have q:=zb hw1;have k0:=zk hw1;have HS:Hid (∀W,Below w1.heap.size w1 W→(zcc W w.heap.size 0 (.int .i64 r.i)∧zcc W w.heap.size 1 (.int .i64 r.m)∧zcc W w.heap.size 2 (.int .i64 r.b))∧zcc W g 0 (.int .i64 id)):=hide (fun W hW=>⟨(zev (zd k0 hW)).1,cell1 (zd (zd c q) hW)⟩);clear k0;have vv:Below w1.heap.size w1 w1.drew:=zR (Below.refl _ _);go_enter Tryz.func211,Tryz.ntmps211;go_wp2_with fail
 refine wp_region_held_drew (S:=(fun W=>(zcc W w.heap.size 0 (.int .i64 r.i)∧zcc W w.heap.size 1 (.int .i64 r.m)∧zcc W w.heap.size 2 (.int .i64 r.b))∧zcc W g 0 (.int .i64 id))) (by kernel_rfl) (HS.out _ vv) (fun hHeld => ?_);refine kK 0 ?_;refine kK 1 ?_;refine kK 3 ?_;refine kR 2 fun K hK => ?_
 go_simp;refine (zal r _).mono ?_;rintro e wz ⟨rfl,hbz⟩;have vv:=ze vv hbz;go_wp2_with fail
 refine kO hK (HS.out _ vv) fun hHeld => ?_
 clear hK K;refine kK 4 ?_;refine kK 5 ?_;refine wpAnyH_done (by kernel_rfl) ?_ _;have HB:=hide (ze q vv);clear HS vv q;go_wp2;go_ret;exact ⟨rfl,HB.out⟩

theorem zdN (a:Option Addr) (n c:Nat) (l:List VR) (id:Int) (g:Nat) (w:World) (h:GRow vrowF w a n c l) (cg:w.heap[g]? = some (.cells #[.int .i64 id] 3)) :
  Calls Tryz.prog 210 #[.slice a n c,.func (.func 211) #[] #[.pointer (some ⟨g,0,none⟩)]] w fun r w'=>r=.returned (.int .i64 (rowAt l id))∧Below w.heap.size w w':=by
 have hle:=h.le;have htop:=h.top;unfold maxLen at htop;have hsz:=h.size;go_enter Tryz.func210,Tryz.ntmps210;go_wp2
 go_loopw [8] (fun i wr=>∃k:Nat,k≤n∧i=.int .i64 k∧(∀(j:Nat) (y:VR),j < k→l[j]? = some y→(y.i == id)=false)∧Below w.heap.size w wr) (fun i _=>n - (intOf i).toNat)
 case atStart=>exact ⟨0,Nat.zero_le _,rfl,fun j y hj=>by omega,Below.refl _ _⟩
 case round =>
  obtain ⟨k,hk,rfl,hno,hb⟩:=hrel;by_cases hlt:k < n
  ·obtain ⟨x,b,off,hx,rfl,c0,c1,c2⟩:=zak (h.below hb) k hlt;cases t1:(x.i == id)
   ·have HO:=hide (zeI hno hx t1);have HA:=hide t1;have HB:=hide hb;clear t1 hno hb hx;(go_wp2_with fail);refine (zbq x id g _ (zd cg HB.out)).mono ?_;rintro r w1 ⟨rfl,hb1⟩;rw [HA.out];have HB1:=hide (ze HB.out hb1);clear hb1 c0 c1 c2;go_wp2
    go_roundw
    case rel=>exact ⟨k+1,by omega,by go_num,HO.out,HB1.out⟩
    case measure=>simp [intOf]; omega
   ·have HF:=hide (zcy hno hx t1);have HA:=hide t1;have HB:=hide hb;clear t1 hno hb hx;(go_wp2_with fail);refine (zbq x id g _ (zd cg HB.out)).mono ?_;rintro r w1 ⟨rfl,hb1⟩;rw [HA.out];have HB1:=hide (ze HB.out hb1);clear hb1 c0 c1 c2;go_wp2;go_ret;exact ⟨(by rw [HF.out]; rfl),HB1.out⟩
  ·have hkn:k=n:=by omega
   have HF:=hide (zcS (l:=l) (id:=id) (fun i y hy=>hno i y (by have:=(List.getElem?_eq_some_iff.1 hy).1; omega) hy));have HB:=hide hb;clear hno hb;subst hkn;go_wp2;go_ret;exact ⟨(by rw [HF.out]; rfl),HB.out⟩

theorem zc1 (a:Option Addr) (n c:Nat) (l:List VR) (id:Int) (w:World) (h:GRow vrowF w a n c l) :
  Calls Tryz.prog 191 #[.slice a n c,.int .i64 id] w fun r w'=>r=.returned (.int .i64 (rowAt l id))∧Below w.heap.size w w':=by
 have hmf:∀(fn:Fn) (first cap:Array Value) (w:World),(Instr.makeFunc fn first cap).run Tryz.prog w=.ok (.func fn first cap) w:=fun _ _ _ _=>rfl
 have q:=zg w (.cells #[.int .i64 id] 3);go_enter Tryz.func191,Tryz.ntmps191;go_wp2_with fail
 refine (zdN a n c l id _ _ (h.below q) (zz w _)).mono ?_;rintro r w1 ⟨rfl,hb1⟩;have HB:=hide (ze q hb1);clear hb1 q;go_wp2;go_ret;exact ⟨rfl,HB.out⟩

theorem zbH (a:Option Addr) (n c:Nat) (l:List VR) (o:Option Addr) (p q:Nat) (id:Int) (w:World) (h:GRow vrowF w a n c l) :
  Calls Tryz.prog 149 #[.agg #[.slice a n c,.slice o p q],.int .i64 id] w fun r w'=>r=.returned (.int .i64 (rowAt l id))∧Below w.heap.size w w':=by
 have q0:=zg w (.cells #[.slice a n c,.slice o p q] 38);go_enter Tryz.func149,Tryz.ntmps149;go_wp2_with fail
 refine (zaU a n c o p q _).mono ?_;rintro r w1 ⟨rfl,hb1⟩;have q1:=ze q0 hb1;clear hb1;go_wp2_with fail
 refine (zc1 a n c l id _ (h.below q1)).mono ?_;rintro r w2 ⟨rfl,hb2⟩;have HB:=hide (ze q1 hb2);clear hb2 q1 q0;go_wp2;go_ret;exact ⟨rfl,HB.out⟩

def I64 (x:Int):Prop := -9223372036854775808≤x∧x≤9223372036854775807

def VR.Rng (r:VR):Prop:=I64 r.i∧I64 r.m∧I64 r.b

theorem bv_of (x:Int):(BitVec.ofInt 64 x).toNat=(x % 18446744073709551616).toNat:=by
 rw [BitVec.toNat_ofInt]
 rfl

theorem zfO (x:BitVec 64):IntKind.i64.wrap (x.toNat:Int)=x.toInt:=by
 have:=x.isLt
 rw [IntKind.wrap_i64,BitVec.toInt_eq_toNat_cond]
 split <;> omega

theorem zcW (a b:Int):bits .and .i64 a b=(BitVec.ofInt 64 a &&& BitVec.ofInt 64 b).toInt:=by
 rw [← zfO]
 rfl
theorem zdY (a b:Int):bits .andNot .i64 a b=(BitVec.ofInt 64 a &&& ~~~(BitVec.ofInt 64 b)).toInt:=by
 rw [← zfO]
 rfl

theorem zeZ {x:BitVec 64}:x.toInt=0↔x=0#64:=by
 rw [← BitVec.toInt_inj]
 simp

theorem zbS (x:Int) (h:I64 x):(BitVec.ofInt 64 x).toInt=x:=by
 unfold I64 at h;rw [BitVec.toInt_ofInt];rw [Int.bmod_def];omega

theorem zcJ (b m:Int) (hb:I64 b):(bits .andNot .i64 b m == 0)=(bits .and .i64 b m == b):=by
 rw [zcW,zdY];have key:(BitVec.ofInt 64 b &&& ~~~(BitVec.ofInt 64 m))=0#64↔(BitVec.ofInt 64 b &&& BitVec.ofInt 64 m)=BitVec.ofInt 64 b:=by
  constructor
  ·intro h
   apply BitVec.eq_of_getLsbD_eq
   intro i hi
   have:=congrArg (fun z=>z.getLsbD i) h
   simp only [BitVec.getLsbD_and,BitVec.getLsbD_not,hi,decide_true,Bool.true_and,BitVec.getLsbD_zero] at this;simp only [BitVec.getLsbD_and];cases h1:(BitVec.ofInt 64 b).getLsbD i <;> cases h2:(BitVec.ofInt 64 m).getLsbD i <;> simp_all
  ·intro h
   apply BitVec.eq_of_getLsbD_eq
   intro i hi
   have:=congrArg (fun z=>z.getLsbD i) h
   simp only [BitVec.getLsbD_and] at this;simp only [BitVec.getLsbD_and,BitVec.getLsbD_not,hi,decide_true,Bool.true_and,BitVec.getLsbD_zero];cases h1:(BitVec.ofInt 64 b).getLsbD i <;> cases h2:(BitVec.ofInt 64 m).getLsbD i <;> simp_all
 have e2:((BitVec.ofInt 64 b &&& BitVec.ofInt 64 m).toInt=b)↔(BitVec.ofInt 64 b &&& BitVec.ofInt 64 m)=BitVec.ofInt 64 b:=by
  constructor
  ·intro h
   apply BitVec.toInt_inj.1
   rw [h,zbS b hb]
  ·intro h;rw [h,zbS b hb]
 have e1:=zeZ (x:=BitVec.ofInt 64 b &&& ~~~(BitVec.ofInt 64 m));rw [Bool.eq_iff_iff];simp only [beq_iff_eq];rw [e1,key,e2]

theorem zgv (p:Nat) (hp:p≤6):(BitVec.ofInt 64 (allOf p)).toNat=2 ^ p - 1:=by
 rcases (show p=0∨p=1∨p=2∨p=3∨p=4∨p=5∨p=6 by omega) with rfl | rfl | rfl | rfl | rfl | rfl | rfl <;> rfl

theorem zfx (p:Nat) (hp:p≤6):(2:Nat) ^ p≤64∧((2:Int) ^ p=((2 ^ p:Nat):Int))∧1≤(2:Nat) ^ p:=by
 rcases (show p=0∨p=1∨p=2∨p=3∨p=4∨p=5∨p=6 by omega) with rfl | rfl | rfl | rfl | rfl | rfl | rfl <;> exact ⟨by decide,rfl,by decide⟩

theorem zdW (m:Int) (p:Nat) (hm:I64 m) (hp:p≤6):(bits .andNot .i64 m (allOf p) == 0)=in3 m 0 (allOf p):=by
 rw [zcJ m _ hm,zcW];have hn:(BitVec.ofInt 64 m &&& BitVec.ofInt 64 (allOf p)).toNat=(BitVec.ofInt 64 m).toNat % 2 ^ p:=by
  rw [BitVec.toNat_and,zgv p hp,Nat.and_two_pow_sub_one_eq_mod]
 have e2:((BitVec.ofInt 64 m &&& BitVec.ofInt 64 (allOf p)).toInt=m)↔(BitVec.ofInt 64 m &&& BitVec.ofInt 64 (allOf p)).toNat=(BitVec.ofInt 64 m).toNat:=by
  constructor
  ·intro h
   have:(BitVec.ofInt 64 m &&& BitVec.ofInt 64 (allOf p))=BitVec.ofInt 64 m:=by
    apply BitVec.toInt_inj.1
    rw [h,zbS m hm]
   rw [this]
  ·intro h;rw [BitVec.eq_of_toNat_eq h,zbS m hm]
 rw [Bool.eq_iff_iff];simp only [beq_iff_eq];rw [e2,hn,bv_of m];obtain ⟨h64,hc,h1⟩:=zfx p hp;unfold in3 allOf;rw [hc];unfold I64 at hm;generalize (2:Nat) ^ p=q at *;simp only [Bool.and_eq_true,decide_eq_true_eq]
 constructor
 ·intro h
  have:(m % 18446744073709551616).toNat % q < q:=Nat.mod_lt _ (by omega)
  omega
 ·intro h;rw [Nat.mod_eq_of_lt (by omega)]

theorem ze3 (b m:Int) (p:Nat) (hb:I64 b) (hp:p≤6) (hm:in3 m 0 (allOf p)=true) (h:(bits .and .i64 b m == b)=true):in3 b 0 (allOf p)=true:=by
 obtain ⟨h64,hc,h1⟩:=zfx p hp;unfold in3 allOf at hm ⊢;rw [hc] at hm ⊢;generalize (2:Nat) ^ p=q at *;simp only [Bool.and_eq_true,decide_eq_true_eq,beq_iff_eq] at *;have hmI:I64 m:=by unfold I64; omega
 rw [zcW] at h;have e:(BitVec.ofInt 64 b &&& BitVec.ofInt 64 m)=BitVec.ofInt 64 b:=by
  apply BitVec.toInt_inj.1
  rw [h,zbS b hb]
 have e':=congrArg BitVec.toNat e;rw [BitVec.toNat_and,bv_of b,bv_of m] at e'
 have:(b % 18446744073709551616).toNat &&& (m % 18446744073709551616).toNat≤(m % 18446744073709551616).toNat:=Nat.and_le_right
 unfold I64 at hb;omega

theorem zfH (r:VR) (p:Nat) (hr:r.Rng) (hp:p≤6):(in3 r.i 1 99 && (bits .andNot .i64 r.m (allOf p) == 0) && (bits .andNot .i64 r.b r.m == 0))=zap (allOf p) r:=by
 rw [zdW r.m p hr.2.1 hp,zcJ r.b r.m hr.2.2];unfold zap;cases h1:in3 r.i 1 99
 ·rfl
 ·cases h2:in3 r.m 0 (allOf p)
  ·rfl
  ·cases h3:(bits .and .i64 r.b r.m == r.b)
   ·simp
   ·rw [ze3 r.b r.m p hr.2.2 hp h2 h3]
    rfl

theorem zby {w:World} {g:Nat} {T:TypeId} {cs:Array Value} (h:w.heap[g]? = some (.cells cs T)) (j:Nat):w.frozen? ⟨g,j,none⟩=false:=by
 simp [World.frozen?,h]

theorem BI.In.le {w:World} {x:BI} (h:x.In w):x.on≤maxLen∧x.zn≤maxLen:=⟨Nat.le_trans h.o.le h.o.top,Nat.le_trans h.z.le h.z.top⟩

def BI.wt (x:BI):Nat:=x.on+x.S.size+x.zn
def bulk (l:List BI):Nat:=(l.map BI.wt).sum
theorem zbv (a b:List BI):bulk (a++b)=bulk a+bulk b:=by simp [bulk]
theorem ze7 (x:BI) (l:List BI):bulk (x::l)=x.wt+bulk l:=by simp [bulk]
theorem zgS {l:List BI} {x:BI} (h:x∈l):x.wt≤bulk l:=by
 obtain ⟨a,b,rfl⟩:=List.append_of_mem h;rw [zbv,ze7]; omega
theorem zgl {α:Type} {l:List α} {i:Nat} {x:α} (h:l[i]? = some x):l.take (i+1)=l.take i++[x]:=by
 obtain ⟨hl,rfl⟩:=List.getElem?_eq_some_iff.1 h;rw [List.take_succ_eq_append_getElem hl]
theorem zgH (l:List BI) (i:Nat):bulk (l.take i)≤bulk l:=by
 conv=>rhs; rw [← List.take_append_drop i l,zbv]
 omega
theorem zgG {l:List BI} {i:Nat} {x:BI} (h:l[i]? = some x):bulk (l.take (i+1))=bulk (l.take i)+x.wt:=by
 rw [zgl h,zbv]; simp [bulk]

theorem zbw (x y:BI) (hd:x.d=y.d) (w:World) (hx:x.In w) (hy:y.In w) :
  Calls Tryz.prog 21 #[.agg #[.slice x.oa x.on x.oc,.int .i64 x.K,.int .i64 x.N,.string x.S,.slice x.za x.zn x.zc],.agg #[.slice y.oa y.on y.oc,.int .i64 y.K,.int .i64 y.N,.string y.S,.slice y.za y.zn y.zc]] w fun e w' =>
   e=.returned (.bool true)∧Below w.heap.size w w':=by
 obtain ⟨oa,on,oc,o,K,N,S,za,zn,zc,z⟩:=x;obtain ⟨oa',on',oc',o',K',N',S',za',zn',zc',z'⟩:=y;simp only [BI.d,BD.mk.injEq] at hd;obtain ⟨rfl,rfl,rfl,rfl,rfl⟩:=hd;obtain ⟨h1,h2,-⟩:=hx;obtain ⟨h3,h4,-⟩:=hy
 simp only at h1 h2 h3 h4 ⊢
 go_enter Tryz.func21,Tryz.ntmps21;go_wp2_with fail
 refine (zcg oa on oc oa' on' oc' o _ (h1.below (zq _ _ _)) (h3.below (zq _ _ _))).mono ?_;rintro e w1 ⟨rfl,m,rfl⟩;go_wp2_with fail
 refine (zbn K N S za zn zc za' zn' zc' z _ (h2.below (zU (zq _ _ _) m)) (h4.below (zU (zq _ _ _) m))).mono ?_;rintro e w2 ⟨rfl,hb⟩;go_wp2;go_ret;exact ⟨rfl,(zU (zq w _ _) m).trans (hb.mono (by have:=(zq w (.cells #[.slice oa on oc,.int .i64 K,.int .i64 N,.string S,.slice za zn zc] 51) (.cells #[.slice oa' on' oc',.int .i64 K,.int .i64 N,.string S,.slice za' zn' zc'] 51)).size; exact this))⟩

theorem zer (e:VR) (w:World) :
  Calls Tryz.prog 125 #[.agg #[.int .i64 e.i,.int .i64 e.m,.int .i64 e.b]] w fun r w'=>r=.returned (.agg #[.int .i64 e.i,.int .i64 e.m,.int .i64 e.b])∧Below w.heap.size w w':=by
 go_enter Tryz.func125,Tryz.ntmps125;go_wp2;exact bodyPost_ret (v:=.agg #[.int .i64 e.i,.int .i64 e.m,.int .i64 e.b]) (by simp [results,Tryz.results125,go_sem, *]) rfl ⟨rfl,z6 _ _ _ _⟩

theorem zfG:(Tryz.prog.info? 113).map (fun i=>(i.zero,i.size,i.bytes))=some (some (.agg #[.int .i64 0,.int .i64 0,.int .i64 0]),3,24):=by kernel_rfl

def VR.zero:VR:=⟨0,0,0⟩

theorem at3h {w w':World} {b off n cap:Nat} {l:List VR} (h:GRow vrowF w (some ⟨b,off,none⟩) n cap l) (hb:Below w.heap.size w w') {i:Nat} {x:VR} (hx:l[i]? = some x) :
  w'.cell? ⟨b,off+i*3,none⟩=some (.int .i64 x.i)∧w'.cell? ⟨b,off+i*3+1,none⟩=some (.int .i64 x.m)∧w'.cell? ⟨b,off+i*3+2,none⟩=some (.int .i64 x.b):=by
 have hi:i < n:=by
  have:=(List.getElem?_eq_some_iff.1 hx).1
  have:=h.size
  omega
 obtain ⟨y,b',off',hy,e,c⟩:=zak (h.below hb) i hi;cases e;rw [hx] at hy;cases hy;exact c

theorem zeJ {w:World} {base g n cap:Nat} {pre post:List VR} {x y:VR} (h:w.ownsRow base 113 3 (.slice (some ⟨g,0,none⟩) n cap) n (vrowF.all (pre++x::post))) :
  (((w.setCell ⟨g,pre.length*3,none⟩ (.int .i64 y.i)).setCell ⟨g,pre.length*3+1,none⟩ (.int .i64 y.m)).setCell ⟨g,pre.length*3+2,none⟩ (.int .i64 y.b)).ownsRow base 113 3 (.slice (some ⟨g,0,none⟩) n cap) n (vrowF.all (pre++y::post)):=by
 have R0:=zB (F:=vrowF) (x':=⟨y.i,x.m,x.b⟩) h 0 (.int .i64 y.i) (by decide) rfl;have R1:=zB (F:=vrowF) (x':=⟨y.i,y.m,x.b⟩) R0 1 (.int .i64 y.m) (by decide) rfl;exact zB (F:=vrowF) (x':=y) R1 2 (.int .i64 y.b) (by decide) rfl

theorem zcM {w:World} {g:Nat} (j0 j1 j2:Nat) (u0 u1 u2:Value):w.grownBy (((w.setCell ⟨g,j0,none⟩ u0).setCell ⟨g,j1,none⟩ u1).setCell ⟨g,j2,none⟩ u2) (some g) :=
 zv (zv (zi _ _) (zi _ _)) (zi _ _)

theorem zcU {w:World} {base g n cap:Nat} {T:TypeId} {l:List VR} (h:w.ownsRow base T 3 (.slice (some ⟨g,0,none⟩) n cap) n (vrowF.all l)) {i:Nat} {x:VR} (hx:l[i]? = some x) :
  (w.cell? ⟨g,i*3,none⟩=some (.int .i64 x.i)∧w.cell? ⟨g,i*3+1,none⟩=some (.int .i64 x.m)∧w.cell? ⟨g,i*3+2,none⟩=some (.int .i64 x.b)) ∧
  (w.frozen? ⟨g,i*3,none⟩=false∧w.frozen? ⟨g,i*3+1,none⟩=false∧w.frozen? ⟨g,i*3+2,none⟩=false):=by
 have c0:=zM (F:=vrowF) h hx (j:=0) (v:=.int .i64 x.i) rfl;have c1:=zM (F:=vrowF) h hx (j:=1) (v:=.int .i64 x.m) rfl;have c2:=zM (F:=vrowF) h hx (j:=2) (v:=.int .i64 x.b) rfl;exact ⟨⟨c0.1,c1.1,c2.1⟩,c0.2,c1.2,c2.2⟩

theorem zdT (ao:Option Addr) (n c:Nat) (l:List VR) (w:World) (hl:GRow vrowF w ao n c l) (hs:n≤1048576) :
  Calls Tryz.prog 82 #[.slice ao n c] w fun r w'=>∃ao' cap,r=.returned (.slice ao' n cap)∧w'.ownsRow w.heap.size 113 3 (.slice ao' n cap) n (vrowF.all l)∧GRow vrowF w' ao' n cap l∧Below w.heap.size w w':=by
 obtain ⟨i0,hi,hz0,hz1,hz2⟩:=zaL zfG;have s1:=hl.size;go_enter Tryz.func82,Tryz.ntmps82;go_wp2_with (at_make; refine wpList_make_full _ rfl _ _ 36 rfl w.heap.size 113 i0 (.agg #[.int .i64 0,.int .i64 0,.int .i64 0]) 3 Tryz.underlying36 hi hz0 hz1 .i64 .i64 _ _ n rfl rfl rfl rfl ?c1 ?c2 ?c3 ?_)
 case c1=>rw [hz2]; omega
 case c2=>unfold maxLen; omega
 case c3=>exact Nat.le_refl _
 intro w1 hown hgrow;have hb1:Below w.heap.size w w1:=(Below.refl _ _).grown hgrow (Nat.le_refl _) (by intro k hk; cases hk);have hown1:w1.ownsRow w.heap.size 113 3 (.slice (some ⟨w.heap.size,0,none⟩) n n) n (vrowF.all (l.take 0++List.replicate (n - 0) VR.zero)):=by
  rw [List.take_zero,List.nil_append,Nat.sub_zero,← zco]; exact hown
 clear hown hgrow hi hz0 hz1 hz2;go_wp2
 go_loopw [4] (fun i wr=>∃k:Nat,k≤n∧i=.int .i64 k∧wr.ownsRow w.heap.size 113 3 (.slice (some ⟨w.heap.size,0,none⟩) n n) n (vrowF.all (l.take k++List.replicate (n - k) VR.zero))∧Below w.heap.size w wr) (fun i _=>n - (intOf i).toNat)
 case atStart=>exact ⟨0,Nat.zero_le _,rfl,hown1,hb1⟩
 case round =>
  obtain ⟨k,hk,rfl,ho,hb⟩:=hrel;clear hown1 hb1;by_cases hlt:k < n
  ·obtain ⟨x,b,off,hx,rfl,a0,a1,a2⟩:=zak (hl.below hb) k hlt;have hrep:List.replicate (n - k) VR.zero=VR.zero::List.replicate (n - (k+1)) VR.zero:=by rw [← List.replicate_succ]; congr 1; omega
   have hlk:(l.take k).length=k:=by rw [List.length_take]; omega
   rw [hrep] at ho;have htk:l.take (k+1)=l.take k++[x]:=by rw [List.take_add_one,hx]; rfl
   have HTK:=hide htk;have HB:=hide hb;have HO:=hide ho;have HX:=hide hx;clear hb ho htk hx;(go_wp2_with fail);refine (zer x _).mono ?_;rintro r w2 ⟨rfl,hb2⟩;have ho2:=zD HO.out hb2;have hz:(l.take k++VR.zero::List.replicate (n - (k+1)) VR.zero)[k]? = some VR.zero:=by rw [List.getElem?_append_right (by omega),hlk,Nat.sub_self]; rfl
   obtain ⟨⟨t0,t1,t2⟩,f0,f1,f2⟩:=zcU ho2 hz;have o3:=zeJ (y:=x) ho2;rw [hlk] at o3;have HO3:=hide o3;have hb3:=ze HB.out hb2;have HB3:=hide (hb3.grown (zcM (w:=w2) (g:=w.heap.size) (k*3) (k*3+1) (k*3+2) (.int .i64 x.i) (.int .i64 x.m) (.int .i64 x.b)) hb3.size (by intro j e; cases e; exact Nat.le_refl _));clear ho2 hb2 hb3 o3 hz a0 a1 a2;go_wp2
   go_roundw
   case rel=>exact ⟨k+1,by omega,by go_num,by rw [HTK.out,List.append_assoc]; exact HO3.out,HB3.out⟩
   case measure=>simp [intOf]; omega
  ·have hkn:k=n:=by omega
   subst hkn;rw [Nat.sub_self,List.take_of_length_le (by omega),List.replicate_zero,List.append_nil] at ho;have HO:=hide ho;have HR:=hide (zT ho);have HB:=hide hb;clear ho hb;go_wp2;go_ret;exact ⟨_,_,rfl,HO.out,HR.out,HB.out⟩

theorem zd2 (e:VR) (w:World) :
  Calls Tryz.prog 132 #[.agg #[.int .i64 e.i,.int .i64 e.m,.int .i64 e.b],.agg #[.int .i64 e.i,.int .i64 e.m,.int .i64 e.b]] w fun r w'=>r=.returned (.bool true)∧Below w.heap.size w w':=by
 go_enter Tryz.func132,Tryz.ntmps132;go_wp2;go_ret;exact ⟨rfl,zq _ _ _⟩

theorem zeo (ao:Option Addr) (n c:Nat) (left:Int) (w:World) (hl:n≤maxLen) (h0:0≤left) (h1:left≤1048576) :
  Calls Tryz.prog 75 #[.slice ao n c,.int .i64 left] w fun r w'=>r=.returned (.int .i64 (if (n:Int)≤left then left - n else -1))∧w'=w:=by
 unfold maxLen at hl;go_enter Tryz.func75,Tryz.ntmps75;go_wp2
 all_goals go_ret
 all_goals exact ⟨rfl,rfl⟩

theorem zen (ao:Option Addr) (n c:Nat) (left:Int) (w:World) (hl:n≤maxLen) (h0:0≤left) (h1:left≤1048576) :
  Calls Tryz.prog 56 #[.slice ao n c,.int .i64 left] w fun r w'=>r=.returned (.int .i64 (if (n:Int)≤left then left - n else -1))∧w'=w:=by
 unfold maxLen at hl;go_enter Tryz.func56,Tryz.ntmps56;go_wp2
 all_goals go_ret
 all_goals exact ⟨rfl,rfl⟩

def markR (k:Int):VR:=⟨k,k+1,k+1+1⟩
def zaT (k:Int) (n:Nat):List VR:=(List.range n).map fun (i:Nat)=>markR (k+3*i)

theorem zc8 (k:Int) (n:Nat):(zaT k n).length=n:=by simp [zaT]
theorem zee (k:Int) (j:Nat):zaT k (j+1)=zaT k j++[markR (k+3*j)]:=by simp [zaT,List.range_succ]
theorem zgP (k:Int) (n j:Nat) (h:j < n):(zaT k n)[j]? = some (markR (k+3*j)):=by simp [zaT,List.getElem?_map,List.getElem?_range h]

theorem zdC (base g n cap:Nat) (l:List VR) (k:Int) (w:World) (hown:w.ownsRow base 113 3 (.slice (some ⟨g,0,none⟩) n cap) n (vrowF.all l)) (hn:n≤16777216) (hk0:0≤k) (hk1:k≤1099511627776) :
  Calls Tryz.prog 88 #[.slice (some ⟨g,0,none⟩) n cap,.int .i64 k] w fun r w'=>r=.returned (.int .i64 (k+3*n))∧w'.ownsRow base 113 3 (.slice (some ⟨g,0,none⟩) n cap) n (vrowF.all (zaT k n))∧w.grownBy w' (some g):=by
 have hl:l.length=n:=(zT (F:=vrowF) hown).size;go_enter Tryz.func88,Tryz.ntmps88;go_wp2
 go_loopw [1,5] (fun m i wr=>∃j:Nat,j≤n∧i=.int .i64 j∧m=.int .i64 (k+3*j)∧wr.ownsRow base 113 3 (.slice (some ⟨g,0,none⟩) n cap) n (vrowF.all (zaT k j++l.drop j))∧w.grownBy wr (some g)) (fun _ i _=>n - (intOf i).toNat)
 case atStart=>exact ⟨0,Nat.zero_le _,rfl,by simp,by simpa [zaT] using hown,World.grownBy.refl _ _⟩
 case round =>
  obtain ⟨j,hj,rfl,rfl,how,hg⟩:=hrel;by_cases hlt:j < n
  ·obtain ⟨x,hx⟩:∃x,l[j]? = some x:=⟨l[j]'(by omega),List.getElem?_eq_getElem (by omega)⟩;have hdr:l.drop j=x::l.drop (j+1):=by
    obtain ⟨h,rfl⟩:=List.getElem?_eq_some_iff.1 hx;exact List.drop_eq_getElem_cons h
   rw [hdr] at how;have hlj:=zc8 k j;have hz:(zaT k j++x::l.drop (j+1))[j]? = some x:=by rw [List.getElem?_append_right (by omega),hlj,Nat.sub_self]; rfl
   obtain ⟨⟨t0,t1,t2⟩,f0,f1,f2⟩:=zcU how hz;have o3:=zeJ (y:=markR (k+3*j)) how;rw [hlj] at o3;have HO3:=hide o3;have HG:=hide (zv hg (zcM (w:=wr) (g:=g) (j*3) (j*3+1) (j*3+2) (.int .i64 (markR (k+3*j)).i) (.int .i64 (markR (k+3*j)).m) (.int .i64 (markR (k+3*j)).b)));have HM:=hide (zee k j);have hm:0≤k+3*(j:Int)∧k+3*(j:Int)≤2199023255552:=by omega
   clear how hg hown o3 hz hdr;generalize hK:k+3*(j:Int)=K at *;go_wp2
   go_roundw
   case rel=>exact ⟨j+1,by omega,by go_num,by simp; omega,by rw [HM.out,List.append_assoc]; exact HO3.out,HG.out⟩
   case measure=>simp [intOf]; omega
  ·have hj':j=n:=by omega
   subst hj';rw [List.drop_eq_nil_of_le (by omega),List.append_nil] at how;have HO:=hide how;clear how hown;go_wp2;go_ret;exact ⟨rfl,HO.out,hg⟩

theorem zc9 (k:Int) (c:Nat) (w:World) :
  Calls Tryz.prog 88 #[.slice none 0 c,.int .i64 k] w fun r w'=>r=.returned (.int .i64 k)∧w'=w:=by
 go_enter Tryz.func88,Tryz.ntmps88;go_wp2
 go_loop [1,5] (fun m i=>m=.int .i64 k∧i=.int .i64 0) (fun _ _=>0)
 case atStart=>exact ⟨rfl,rfl⟩
 case round =>
  obtain ⟨rfl,rfl⟩:=hrel;go_wp2;go_ret;exact ⟨rfl,rfl⟩

theorem zcu (base:Nat) (ao:Option Addr) (n cap:Nat) (l:List VR) (k:Int) (w:World) (hown:w.ownsRow base 113 3 (.slice ao n cap) n (vrowF.all l)) (hn:n≤16777216) (hk0:0≤k) (hk1:k≤1099511627776) :
  Calls Tryz.prog 88 #[.slice ao n cap,.int .i64 k] w fun r w'=>r=.returned (.int .i64 (k+3*n))∧w'.ownsRow base 113 3 (.slice ao n cap) n (vrowF.all (zaT k n))∧w.grownBy w' (Value.slice ao n cap).ownBlock:=by
 rcases hown.2 with ⟨e,h0⟩ | ⟨g,cap',cur,e,-⟩
 ·cases e;refine (zc9 k 0 w).mono ?_;rintro r w' ⟨rfl,rfl⟩;exact ⟨by simp,by simpa [zaT,Flat.all] using World.ownsRow_nil w' base 113 3,World.grownBy.refl _ _⟩
 ·cases e;exact zdC base g n cap l k w hown hn hk0 hk1

theorem zdn (ao:Option Addr) (n c:Nat) (ao':Option Addr) (n' c':Nat) (l:List VR) (w:World) (hl:GRow vrowF w ao n c l) (hl':GRow vrowF w ao' n' c' l) :
  Calls Tryz.prog 87 #[.slice ao n c,.slice ao' n' c'] w fun r w'=>r=.returned (.bool true)∧Below w.heap.size w w':=by
 have hs:=hl.size;have hs':=hl'.size;have htop:=Nat.le_trans hl.le hl.top;unfold maxLen at htop;have hnn:n'=n:=by omega
 subst hnn;go_enter Tryz.func87,Tryz.ntmps87;go_wp2
 go_loopw [5] (fun i wr=>∃k:Nat,k≤n'∧i=.int .i64 k∧Below w.heap.size w wr) (fun i _=>n' - (intOf i).toNat)
 case atStart=>exact ⟨0,Nat.zero_le _,rfl,Below.refl _ _⟩
 case round =>
  obtain ⟨k,hk,rfl,hb⟩:=hrel;by_cases hlt:k < n'
  ·obtain ⟨x,b,off,hx,rfl,a0,a1,a2⟩:=zak (hl.below hb) k hlt;obtain ⟨y,b',off',hy,rfl,e0,e1,e2⟩:=zak (hl'.below hb) k hlt;rw [hx] at hy;cases hy;have HS:Hid (∀W,Below wr.heap.size wr W→(zcc W b (off+k*3) (.int .i64 x.i)∧zcc W b (off+k*3+1) (.int .i64 x.m)∧zcc W b (off+k*3+2) (.int .i64 x.b))∧(zcc W b' (off'+k*3) (.int .i64 x.i)∧zcc W b' (off'+k*3+1) (.int .i64 x.m)∧zcc W b' (off'+k*3+2) (.int .i64 x.b))):=hide (fun W h=>⟨at3h (hl.below hb) h hx,at3h (hl'.below hb) h hx⟩);have vv:Below wr.heap.size wr wr.drew:=zR (Below.refl _ _);have i1:(0:Int)≤(k:Int):=by omega
   have i2:(k:Int) < (n':Int):=by omega
   have HB:=hide hb;clear hb a0 a1 a2 e0 e1 e2 hx;(go_wp2_with fail);refine wp_region_held_drew (S:=(fun W=>(zcc W b (off+k*3) (.int .i64 x.i)∧zcc W b (off+k*3+1) (.int .i64 x.m)∧zcc W b (off+k*3+2) (.int .i64 x.b))∧(zcc W b' (off'+k*3) (.int .i64 x.i)∧zcc W b' (off'+k*3+1) (.int .i64 x.m)∧zcc W b' (off'+k*3+2) (.int .i64 x.b)))) (by kernel_rfl) (HS.out _ vv) (fun hHeld => ?_);refine kK 0 ?_;refine kK 1 ?_;refine kK 2 ?_;refine kK 3 ?_;refine kK 4 ?_;refine kK 5 ?_;refine kK 6 ?_;refine kK 7 ?_;refine kR 8 fun K hK => ?_
   go_simp;refine (zd2 x _).mono ?_;rintro r wz ⟨rfl,hbz⟩;have vv:=ze vv hbz;(go_wp2_with fail);refine kO hK (HS.out _ vv) fun hHeld => ?_
   clear hK K;refine kK 9 ?_;refine wpAnyH_done (by kernel_rfl) ?_ _;have b1:=ze HB.out vv;clear HS hHeld vv;go_wp2
   go_roundw
   case rel=>exact ⟨k+1,by omega,by go_num,b1⟩
   case measure=>simp [intOf]; omega
  ·have hk':k=n':=by omega
   subst hk';go_wp2;go_ret;exact ⟨rfl,hb⟩

theorem zfE (x:PT) (w:World) :
  Calls Tryz.prog 80 #[.agg #[.bool x.up,.int .i64 x.k,.bool x.has,.int .i64 x.v.r,.int .i64 x.v.c,.int .i64 x.v.h,.int .i64 x.v.b,.int .i64 x.v.p]] w fun r w'=>r=.returned (.agg #[.bool x.up,.int .i64 x.k,.bool x.has,.int .i64 x.v.r,.int .i64 x.v.c,.int .i64 x.v.h,.int .i64 x.v.b,.int .i64 x.v.p])∧Below w.heap.size w w':=by
 go_enter Tryz.func80,Tryz.ntmps80;go_wp2_with fail
 refine (ze1 x.v.r x.v.c x.v.h x.v.b x.v.p _).mono ?_;rintro e w2 ⟨rfl,hb2⟩;obtain ⟨-,k1,k2⟩:=zax hb2;have HB0:=hide (ze (z6 w _ _ _) hb2);clear hb2;obtain ⟨d0,d1,d2,d3,d4,d5,d6,d7⟩:=zdk k2;obtain ⟨e0,e1,e2,e3,e4,e5,e6,e7⟩:=zdk k1;have fr:∀j,w2.frozen? ⟨w.heap.size+1+1,j,none⟩=false:=fun j=>by simp [World.frozen?,k2]
 have gr:∀j,w2.frozen? ⟨w.heap.size+1,j,none⟩=false:=fun j=>by simp [World.frozen?,k1]
 have f3:=fr 3;have f4:=fr 4;have f5:=fr 5;have f6:=fr 6;have f7:=fr 7;have g0:=gr 0;have g1:=gr 1;have g2:=gr 2;have g3:=gr 3;have g4:=gr 4;have g5:=gr 5;have g6:=gr 6;have g7:=gr 7;have ne1:¬w.heap.size+1=w.heap.size+1+1:=by omega
 have ne2:¬w.heap.size+1+1=w.heap.size+1:=by omega
 have HB:=hide (zl (zl (zl (zl (zl (zl (zl (zl (zl (zl (zl (zl (zl HB0.out (g:=w.heap.size+1+1) (by omega) 3 (.int .i64 x.v.r)) (g:=w.heap.size+1+1) (by omega) 4 (.int .i64 x.v.c)) (g:=w.heap.size+1+1) (by omega) 5 (.int .i64 x.v.h)) (g:=w.heap.size+1+1) (by omega) 6 (.int .i64 x.v.b)) (g:=w.heap.size+1+1) (by omega) 7 (.int .i64 x.v.p)) (g:=w.heap.size+1) (by omega) 0 (.bool x.up)) (g:=w.heap.size+1) (by omega) 1 (.int .i64 x.k)) (g:=w.heap.size+1) (by omega) 2 (.bool x.has)) (g:=w.heap.size+1) (by omega) 3 (.int .i64 x.v.r)) (g:=w.heap.size+1) (by omega) 4 (.int .i64 x.v.c)) (g:=w.heap.size+1) (by omega) 5 (.int .i64 x.v.h)) (g:=w.heap.size+1) (by omega) 6 (.int .i64 x.v.b)) (g:=w.heap.size+1) (by omega) 7 (.int .i64 x.v.p));clear fr gr k1 k2;go_wp2;exact bodyPost_ret (v:=.agg #[.bool x.up,.int .i64 x.k,.bool x.has,.int .i64 x.v.r,.int .i64 x.v.c,.int .i64 x.v.h,.int .i64 x.v.b,.int .i64 x.v.p]) (by simp [results,Tryz.results80,go_sem, *]) rfl ⟨rfl,HB.out⟩

theorem zgz:(Tryz.prog.info? 120).map (fun i=>(i.zero,i.size,i.bytes))=some (some (.agg #[.bool false,.int .i64 0,.bool false,.int .i64 0,.int .i64 0,.int .i64 0,.int .i64 0,.int .i64 0]),8,64):=by kernel_rfl

def PT.zero:PT:=⟨false,0,false,⟨0,0,0,0,0⟩⟩

theorem at8h {w w':World} {b off n cap:Nat} {l:List PT} (h:GRow ptF w (some ⟨b,off,none⟩) n cap l) (hb:Below w.heap.size w w') {i:Nat} {x:PT} (hx:l[i]? = some x) :
  w'.cell? ⟨b,off+i*8,none⟩=some (.bool x.up)∧w'.cell? ⟨b,off+i*8+1,none⟩=some (.int .i64 x.k)∧w'.cell? ⟨b,off+i*8+2,none⟩=some (.bool x.has)∧w'.cell? ⟨b,off+i*8+3,none⟩=some (.int .i64 x.v.r)∧w'.cell? ⟨b,off+i*8+4,none⟩=some (.int .i64 x.v.c)∧w'.cell? ⟨b,off+i*8+5,none⟩=some (.int .i64 x.v.h)∧w'.cell? ⟨b,off+i*8+6,none⟩=some (.int .i64 x.v.b)∧w'.cell? ⟨b,off+i*8+7,none⟩=some (.int .i64 x.v.p):=by
 have hi:i < n:=by
  have:=(List.getElem?_eq_some_iff.1 hx).1
  have:=h.size
  omega
 obtain ⟨y,b',off',hy,e,c⟩:=pt_at (h.below hb) i hi;cases e;rw [hx] at hy;cases hy;exact c

theorem zgr {w:World} {base g n cap:Nat} {pre post:List PT} {x y:PT} (h:w.ownsRow base 120 8 (.slice (some ⟨g,0,none⟩) n cap) n (ptF.all (pre++x::post))) :
  ((((((((w.setCell ⟨g,pre.length*8,none⟩ (.bool y.up)).setCell ⟨g,pre.length*8+1,none⟩ (.int .i64 y.k)).setCell ⟨g,pre.length*8+2,none⟩ (.bool y.has)).setCell ⟨g,pre.length*8+3,none⟩ (.int .i64 y.v.r)).setCell ⟨g,pre.length*8+4,none⟩ (.int .i64 y.v.c)).setCell ⟨g,pre.length*8+5,none⟩ (.int .i64 y.v.h)).setCell ⟨g,pre.length*8+6,none⟩ (.int .i64 y.v.b)).setCell ⟨g,pre.length*8+7,none⟩ (.int .i64 y.v.p)).ownsRow base 120 8 (.slice (some ⟨g,0,none⟩) n cap) n (ptF.all (pre++y::post)):=by
 have R0:=zB (F:=ptF) (x':=⟨y.up,x.k,x.has,⟨x.v.r,x.v.c,x.v.h,x.v.b,x.v.p⟩⟩) h 0 (.bool y.up) (by decide) rfl;have R1:=zB (F:=ptF) (x':=⟨y.up,y.k,x.has,⟨x.v.r,x.v.c,x.v.h,x.v.b,x.v.p⟩⟩) R0 1 (.int .i64 y.k) (by decide) rfl;have R2:=zB (F:=ptF) (x':=⟨y.up,y.k,y.has,⟨x.v.r,x.v.c,x.v.h,x.v.b,x.v.p⟩⟩) R1 2 (.bool y.has) (by decide) rfl;have R3:=zB (F:=ptF) (x':=⟨y.up,y.k,y.has,⟨y.v.r,x.v.c,x.v.h,x.v.b,x.v.p⟩⟩) R2 3 (.int .i64 y.v.r) (by decide) rfl;have R4:=zB (F:=ptF) (x':=⟨y.up,y.k,y.has,⟨y.v.r,y.v.c,x.v.h,x.v.b,x.v.p⟩⟩) R3 4 (.int .i64 y.v.c) (by decide) rfl;have R5:=zB (F:=ptF) (x':=⟨y.up,y.k,y.has,⟨y.v.r,y.v.c,y.v.h,x.v.b,x.v.p⟩⟩) R4 5 (.int .i64 y.v.h) (by decide) rfl;have R6:=zB (F:=ptF) (x':=⟨y.up,y.k,y.has,⟨y.v.r,y.v.c,y.v.h,y.v.b,x.v.p⟩⟩) R5 6 (.int .i64 y.v.b) (by decide) rfl;exact zB (F:=ptF) (x':=y) R6 7 (.int .i64 y.v.p) (by decide) rfl

theorem zcO {w:World} {g:Nat} (j0 j1 j2 j3 j4 j5 j6 j7:Nat) (u0 u1 u2 u3 u4 u5 u6 u7:Value):w.grownBy ((((((((w.setCell ⟨g,j0,none⟩ u0).setCell ⟨g,j1,none⟩ u1).setCell ⟨g,j2,none⟩ u2).setCell ⟨g,j3,none⟩ u3).setCell ⟨g,j4,none⟩ u4).setCell ⟨g,j5,none⟩ u5).setCell ⟨g,j6,none⟩ u6).setCell ⟨g,j7,none⟩ u7) (some g) :=
 zv (zv (zv (zv (zv (zv (zv (zi _ _) (zi _ _)) (zi _ _)) (zi _ _)) (zi _ _)) (zi _ _)) (zi _ _)) (zi _ _)

theorem zeF {w:World} {base g n cap:Nat} {T:TypeId} {l:List PT} (h:w.ownsRow base T 8 (.slice (some ⟨g,0,none⟩) n cap) n (ptF.all l)) {i:Nat} {x:PT} (hx:l[i]? = some x) :
  (w.cell? ⟨g,i*8,none⟩=some (.bool x.up)∧w.cell? ⟨g,i*8+1,none⟩=some (.int .i64 x.k)∧w.cell? ⟨g,i*8+2,none⟩=some (.bool x.has)∧w.cell? ⟨g,i*8+3,none⟩=some (.int .i64 x.v.r)∧w.cell? ⟨g,i*8+4,none⟩=some (.int .i64 x.v.c)∧w.cell? ⟨g,i*8+5,none⟩=some (.int .i64 x.v.h)∧w.cell? ⟨g,i*8+6,none⟩=some (.int .i64 x.v.b)∧w.cell? ⟨g,i*8+7,none⟩=some (.int .i64 x.v.p)) ∧
  (w.frozen? ⟨g,i*8,none⟩=false∧w.frozen? ⟨g,i*8+1,none⟩=false∧w.frozen? ⟨g,i*8+2,none⟩=false∧w.frozen? ⟨g,i*8+3,none⟩=false∧w.frozen? ⟨g,i*8+4,none⟩=false∧w.frozen? ⟨g,i*8+5,none⟩=false∧w.frozen? ⟨g,i*8+6,none⟩=false∧w.frozen? ⟨g,i*8+7,none⟩=false):=by
 have c0:=zM (F:=ptF) h hx (j:=0) (v:=.bool x.up) rfl;have c1:=zM (F:=ptF) h hx (j:=1) (v:=.int .i64 x.k) rfl;have c2:=zM (F:=ptF) h hx (j:=2) (v:=.bool x.has) rfl;have c3:=zM (F:=ptF) h hx (j:=3) (v:=.int .i64 x.v.r) rfl;have c4:=zM (F:=ptF) h hx (j:=4) (v:=.int .i64 x.v.c) rfl;have c5:=zM (F:=ptF) h hx (j:=5) (v:=.int .i64 x.v.h) rfl;have c6:=zM (F:=ptF) h hx (j:=6) (v:=.int .i64 x.v.b) rfl;have c7:=zM (F:=ptF) h hx (j:=7) (v:=.int .i64 x.v.p) rfl;exact ⟨⟨c0.1,c1.1,c2.1,c3.1,c4.1,c5.1,c6.1,c7.1⟩,c0.2,c1.2,c2.2,c3.2,c4.2,c5.2,c6.2,c7.2⟩

theorem ze0 (ao:Option Addr) (n c:Nat) (l:List PT) (w:World) (hl:GRow ptF w ao n c l) (hs:n≤1048576) :
  Calls Tryz.prog 40 #[.slice ao n c] w fun r w'=>∃ao' cap,r=.returned (.slice ao' n cap)∧w'.ownsRow w.heap.size 120 8 (.slice ao' n cap) n (ptF.all l)∧GRow ptF w' ao' n cap l∧Below w.heap.size w w':=by
 obtain ⟨i0,hi,hz0,hz1,hz2⟩:=zaL zgz;have s1:=hl.size;go_enter Tryz.func40,Tryz.ntmps40;go_wp2_with (at_make; refine wpList_make_full _ rfl _ _ 34 rfl w.heap.size 120 i0 (.agg #[.bool false,.int .i64 0,.bool false,.int .i64 0,.int .i64 0,.int .i64 0,.int .i64 0,.int .i64 0]) 8 Tryz.underlying34 hi hz0 hz1 .i64 .i64 _ _ n rfl rfl rfl rfl ?c1 ?c2 ?c3 ?_)
 case c1=>rw [hz2]; omega
 case c2=>unfold maxLen; omega
 case c3=>exact Nat.le_refl _
 intro w1 hown hgrow;have hb1:Below w.heap.size w w1:=(Below.refl _ _).grown hgrow (Nat.le_refl _) (by intro k hk; cases hk);have hown1:w1.ownsRow w.heap.size 120 8 (.slice (some ⟨w.heap.size,0,none⟩) n n) n (ptF.all (l.take 0++List.replicate (n - 0) PT.zero)):=by
  rw [List.take_zero,List.nil_append,Nat.sub_zero,← zco]; exact hown
 clear hown hgrow hi hz0 hz1 hz2;go_wp2
 go_loopw [4] (fun i wr=>∃k:Nat,k≤n∧i=.int .i64 k∧wr.ownsRow w.heap.size 120 8 (.slice (some ⟨w.heap.size,0,none⟩) n n) n (ptF.all (l.take k++List.replicate (n - k) PT.zero))∧Below w.heap.size w wr) (fun i _=>n - (intOf i).toNat)
 case atStart=>exact ⟨0,Nat.zero_le _,rfl,hown1,hb1⟩
 case round =>
  obtain ⟨k,hk,rfl,ho,hb⟩:=hrel;clear hown1 hb1;by_cases hlt:k < n
  ·obtain ⟨x,b,off,hx,rfl,a0,a1,a2,a3,a4,a5,a6,a7⟩:=pt_at (hl.below hb) k hlt;have hrep:List.replicate (n - k) PT.zero=PT.zero::List.replicate (n - (k+1)) PT.zero:=by rw [← List.replicate_succ]; congr 1; omega
   have hlk:(l.take k).length=k:=by rw [List.length_take]; omega
   rw [hrep] at ho;have htk:l.take (k+1)=l.take k++[x]:=by rw [List.take_add_one,hx]; rfl
   have HTK:=hide htk;have HB:=hide hb;have HO:=hide ho;have HX:=hide hx;clear hb ho htk hx;(go_wp2_with fail);refine (zfE x _).mono ?_;rintro r w2 ⟨rfl,hb2⟩;have ho2:=zD HO.out hb2;have hz:(l.take k++PT.zero::List.replicate (n - (k+1)) PT.zero)[k]? = some PT.zero:=by rw [List.getElem?_append_right (by omega),hlk,Nat.sub_self]; rfl
   obtain ⟨⟨t0,t1,t2,t3,t4,t5,t6,t7⟩,f0,f1,f2,f3,f4,f5,f6,f7⟩:=zeF ho2 hz;have o3:=zgr (y:=x) ho2;rw [hlk] at o3;have HO3:=hide o3;have hb3:=ze HB.out hb2;have HB3:=hide (hb3.grown (zcO (w:=w2) (g:=w.heap.size) (k*8) (k*8+1) (k*8+2) (k*8+3) (k*8+4) (k*8+5) (k*8+6) (k*8+7) (.bool x.up) (.int .i64 x.k) (.bool x.has) (.int .i64 x.v.r) (.int .i64 x.v.c) (.int .i64 x.v.h) (.int .i64 x.v.b) (.int .i64 x.v.p)) hb3.size (by intro j e; cases e; exact Nat.le_refl _));clear ho2 hb2 hb3 o3 hz a0 a1 a2 a3 a4 a5 a6 a7;go_wp2
   go_roundw
   case rel=>exact ⟨k+1,by omega,by go_num,by rw [HTK.out,List.append_assoc]; exact HO3.out,HB3.out⟩
   case measure=>simp [intOf]; omega
  ·have hkn:k=n:=by omega
   subst hkn;rw [Nat.sub_self,List.take_of_length_le (by omega),List.replicate_zero,List.append_nil] at ho;have HO:=hide ho;have HR:=hide (zT ho);have HB:=hide hb;clear ho hb;go_wp2;go_ret;exact ⟨_,_,rfl,HO.out,HR.out,HB.out⟩

theorem zfb (x:PT) (w:World) :
  Calls Tryz.prog 85 #[.agg #[.bool x.up,.int .i64 x.k,.bool x.has,.int .i64 x.v.r,.int .i64 x.v.c,.int .i64 x.v.h,.int .i64 x.v.b,.int .i64 x.v.p],.agg #[.bool x.up,.int .i64 x.k,.bool x.has,.int .i64 x.v.r,.int .i64 x.v.c,.int .i64 x.v.h,.int .i64 x.v.b,.int .i64 x.v.p]] w fun r w'=>r=.returned (.bool true)∧Below w.heap.size w w':=by
 go_enter Tryz.func85,Tryz.ntmps85;go_wp2_with fail
 refine (zeS x.v.r x.v.c x.v.h x.v.b x.v.p _).mono ?_;rintro e w2 ⟨rfl,hb2⟩;have HB:=hide (ze (zq _ _ _) hb2);clear hb2;go_wp2;go_ret;exact ⟨rfl,HB.out⟩

theorem zfA (ao:Option Addr) (n c:Nat) (left:Int) (w:World) (hl:n≤maxLen) (h0:0≤left) (h1:left≤1048576) :
  Calls Tryz.prog 35 #[.slice ao n c,.int .i64 left] w fun r w'=>r=.returned (.int .i64 (if (n:Int)≤left then left - n else -1))∧w'=w:=by
 unfold maxLen at hl;go_enter Tryz.func35,Tryz.ntmps35;go_wp2
 all_goals go_ret
 all_goals exact ⟨rfl,rfl⟩

theorem zeR (ao:Option Addr) (n c:Nat) (ao':Option Addr) (n' c':Nat) (l:List PT) (w:World) (hl:GRow ptF w ao n c l) (hl':GRow ptF w ao' n' c' l) :
  Calls Tryz.prog 45 #[.slice ao n c,.slice ao' n' c'] w fun r w'=>r=.returned (.bool true)∧Below w.heap.size w w':=by
 have hs:=hl.size;have hs':=hl'.size;have htop:=Nat.le_trans hl.le hl.top;unfold maxLen at htop;have hnn:n'=n:=by omega
 subst hnn;go_enter Tryz.func45,Tryz.ntmps45;go_wp2
 go_loopw [5] (fun i wr=>∃k:Nat,k≤n'∧i=.int .i64 k∧Below w.heap.size w wr) (fun i _=>n' - (intOf i).toNat)
 case atStart=>exact ⟨0,Nat.zero_le _,rfl,Below.refl _ _⟩
 case round =>
  obtain ⟨k,hk,rfl,hb⟩:=hrel;by_cases hlt:k < n'
  ·obtain ⟨x,b,off,hx,rfl,a0,a1,a2,a3,a4,a5,a6,a7⟩:=pt_at (hl.below hb) k hlt;obtain ⟨y,b',off',hy,rfl,e0,e1,e2,e3,e4,e5,e6,e7⟩:=pt_at (hl'.below hb) k hlt;rw [hx] at hy;cases hy;have CX:Hid (∀W,Below wr.heap.size wr W→_∧_):=fun W h=>⟨at8h (hl.below hb) h hx,at8h (hl'.below hb) h hx⟩
   have HB:=hide hb;clear hb;(go_wp2_with fail)
   go_region_held3 (fun W=>(W.cell? ⟨b,off+k*8,none⟩=some (.bool x.up)∧W.cell? ⟨b,off+k*8+1,none⟩=some (.int .i64 x.k)∧W.cell? ⟨b,off+k*8+2,none⟩=some (.bool x.has)∧W.cell? ⟨b,off+k*8+3,none⟩=some (.int .i64 x.v.r)∧W.cell? ⟨b,off+k*8+4,none⟩=some (.int .i64 x.v.c)∧W.cell? ⟨b,off+k*8+5,none⟩=some (.int .i64 x.v.h)∧W.cell? ⟨b,off+k*8+6,none⟩=some (.int .i64 x.v.b)∧W.cell? ⟨b,off+k*8+7,none⟩=some (.int .i64 x.v.p))∧(W.cell? ⟨b',off'+k*8,none⟩=some (.bool x.up)∧W.cell? ⟨b',off'+k*8+1,none⟩=some (.int .i64 x.k)∧W.cell? ⟨b',off'+k*8+2,none⟩=some (.bool x.has)∧W.cell? ⟨b',off'+k*8+3,none⟩=some (.int .i64 x.v.r)∧W.cell? ⟨b',off'+k*8+4,none⟩=some (.int .i64 x.v.c)∧W.cell? ⟨b',off'+k*8+5,none⟩=some (.int .i64 x.v.h)∧W.cell? ⟨b',off'+k*8+6,none⟩=some (.int .i64 x.v.b)∧W.cell? ⟨b',off'+k*8+7,none⟩=some (.int .i64 x.v.p))) (first | exact CX.out _ u1 | go_keep) (first
    | (go_at_call 85; refine (zfb x _).mono ?_; rintro r w1 ⟨rfl,hb1⟩; have u1:Below wr.heap.size wr w1:=undrew hb1))
   have b1:=ze HB.out u1;clear u1 hb1 a0 a1 a2 a3 a4 a5 a6 a7 e0 e1 e2 e3 e4 e5 e6 e7;go_wp2
   go_roundw
   case rel=>exact ⟨k+1,by omega,by go_num,b1⟩
   case measure=>simp [intOf]; omega
  ·have hk':k=n':=by omega
   subst hk';go_wp2;go_ret;exact ⟨rfl,hb⟩

def markP (k:Int):PT:=⟨(k) % 3 == 0,k+1,(k+1+1) % 3 == 0,⟨k+1+1+1,k+1+1+1+1,k+1+1+1+1+1,k+1+1+1+1+1+1,k+1+1+1+1+1+1+1⟩⟩
def zaS (k:Int) (n:Nat):List PT:=(List.range n).map fun (i:Nat)=>markP (k+8*i)

theorem zc6 (k:Int) (n:Nat):(zaS k n).length=n:=by simp [zaS]
theorem zec (k:Int) (j:Nat):zaS k (j+1)=zaS k j++[markP (k+8*j)]:=by simp [zaS,List.range_succ]
theorem zgO (k:Int) (n j:Nat) (h:j < n):(zaS k n)[j]? = some (markP (k+8*j)):=by simp [zaS,List.getElem?_map,List.getElem?_range h]

theorem zeV (base g n cap:Nat) (l:List PT) (k:Int) (w:World) (hown:w.ownsRow base 120 8 (.slice (some ⟨g,0,none⟩) n cap) n (ptF.all l)) (hn:n≤16777216) (hk0:0≤k) (hk1:k≤1099511627776) :
  Calls Tryz.prog 48 #[.slice (some ⟨g,0,none⟩) n cap,.int .i64 k] w fun r w'=>r=.returned (.int .i64 (k+8*n))∧w'.ownsRow base 120 8 (.slice (some ⟨g,0,none⟩) n cap) n (ptF.all (zaS k n))∧w.grownBy w' (some g):=by
 have hl:l.length=n:=(zT (F:=ptF) hown).size;go_enter Tryz.func48,Tryz.ntmps48;go_wp2
 go_loopw [1,5] (fun m i wr=>∃j:Nat,j≤n∧i=.int .i64 j∧m=.int .i64 (k+8*j)∧wr.ownsRow base 120 8 (.slice (some ⟨g,0,none⟩) n cap) n (ptF.all (zaS k j++l.drop j))∧w.grownBy wr (some g)) (fun _ i _=>n - (intOf i).toNat)
 case atStart=>exact ⟨0,Nat.zero_le _,rfl,by simp,by simpa [zaS] using hown,World.grownBy.refl _ _⟩
 case round =>
  obtain ⟨j,hj,rfl,rfl,how,hg⟩:=hrel;by_cases hlt:j < n
  ·obtain ⟨x,hx⟩:∃x,l[j]? = some x:=⟨l[j]'(by omega),List.getElem?_eq_getElem (by omega)⟩;have hdr:l.drop j=x::l.drop (j+1):=by
    obtain ⟨h,rfl⟩:=List.getElem?_eq_some_iff.1 hx;exact List.drop_eq_getElem_cons h
   rw [hdr] at how;have hlj:=zc6 k j;have hz:(zaS k j++x::l.drop (j+1))[j]? = some x:=by rw [List.getElem?_append_right (by omega),hlj,Nat.sub_self]; rfl
   obtain ⟨⟨t0,t1,t2,t3,t4,t5,t6,t7⟩,f0,f1,f2,f3,f4,f5,f6,f7⟩:=zeF how hz;have o3:=zgr (y:=markP (k+8*j)) how;rw [hlj] at o3;have HO3:=hide o3;have HG:=hide (zv hg (zcO (w:=wr) (g:=g) (j*8) (j*8+1) (j*8+2) (j*8+3) (j*8+4) (j*8+5) (j*8+6) (j*8+7) (.bool (markP (k+8*j)).up) (.int .i64 (markP (k+8*j)).k) (.bool (markP (k+8*j)).has) (.int .i64 (markP (k+8*j)).v.r) (.int .i64 (markP (k+8*j)).v.c) (.int .i64 (markP (k+8*j)).v.h) (.int .i64 (markP (k+8*j)).v.b) (.int .i64 (markP (k+8*j)).v.p)));have HM:=hide (zec k j);have hm:0≤k+8*(j:Int)∧k+8*(j:Int)≤2199023255552:=by omega
   clear how hg hown o3 hz hdr;generalize hK:k+8*(j:Int)=K at *;go_wp2
   go_roundw
   case rel=>exact ⟨j+1,by omega,by go_num,by simp; omega,by rw [HM.out,List.append_assoc]; exact HO3.out,HG.out⟩
   case measure=>simp [intOf]; omega
  ·have hj':j=n:=by omega
   subst hj';rw [List.drop_eq_nil_of_le (by omega),List.append_nil] at how;have HO:=hide how;clear how hown;go_wp2;go_ret;exact ⟨rfl,HO.out,hg⟩

theorem zed (k:Int) (c:Nat) (w:World) :
  Calls Tryz.prog 48 #[.slice none 0 c,.int .i64 k] w fun r w'=>r=.returned (.int .i64 k)∧w'=w:=by
 go_enter Tryz.func48,Tryz.ntmps48;go_wp2
 go_loop [1,5] (fun m i=>m=.int .i64 k∧i=.int .i64 0) (fun _ _=>0)
 case atStart=>exact ⟨rfl,rfl⟩
 case round =>
  obtain ⟨rfl,rfl⟩:=hrel;go_wp2;go_ret;exact ⟨rfl,rfl⟩

theorem zc7 (base:Nat) (ao:Option Addr) (n cap:Nat) (l:List PT) (k:Int) (w:World) (hown:w.ownsRow base 120 8 (.slice ao n cap) n (ptF.all l)) (hn:n≤16777216) (hk0:0≤k) (hk1:k≤1099511627776) :
  Calls Tryz.prog 48 #[.slice ao n cap,.int .i64 k] w fun r w'=>r=.returned (.int .i64 (k+8*n))∧w'.ownsRow base 120 8 (.slice ao n cap) n (ptF.all (zaS k n))∧w.grownBy w' (Value.slice ao n cap).ownBlock:=by
 rcases hown.2 with ⟨e,h0⟩ | ⟨g,cap',cur,e,-⟩
 ·cases e;refine (zed k 0 w).mono ?_;rintro r w' ⟨rfl,rfl⟩;exact ⟨by simp,by simpa [zaS,Flat.all] using World.ownsRow_nil w' base 120 8,World.grownBy.refl _ _⟩
 ·cases e;exact zeV base g n cap l k w hown hn hk0 hk1

section
open Go.RowKit

section
open Go.ChangeShapes Go.WideShapes Go.ChangeAt
variable {H:Type} {enc:TypeId × Value→H} {P:Program} {w:World}

theorem wf_64 {n:Int} (h:(Lit.int .i64 n).wf=true):I64 n:=by
 unfold I64
 simp [Lit.wf,IntKind.min,IntKind.max,IntKind.bits,IntKind.signed] at h
 omega

theorem zfI {tp ti:TypeId} {g0 g1 g2:Field} (hs:P.underlying tp=some (.struct #[g0,g1,g2])) (hi:P.underlying ti=some (.int .i64))
  (e0:g0.type=ti∧g0.offset=0) (e1:g1.type=ti∧g1.offset=1) (e2:g2.type=ti∧g2.offset=2) (hC:P.cellsOf tp=3) (hti:P.cellsOf ti=1)
  {fuel:Nat} {cs:List Value} {x:DataW H × List MemPlace} (h:DataW.trod enc P w 0 (fun _=>true) true fuel tp cs=some x):∃y,cs=vrowF.cs y∧y.Rng:=by
 obtain ⟨xs,n,_,_,hlen,hxl,hq⟩:=DataW.trod_struct hs h;rw [hC] at hlen
 match xs,hxl,cs,hlen with
 | [y0,y1,y2],_,[v0,v1,v2],_ =>
  have k0:=hq 0 g0 rfl;have k1:=hq 1 g1 rfl;have k2:=hq 2 g2 rfl;rw [e0.1,e0.2,hti] at k0;rw [e1.1,e1.2,hti] at k1;rw [e2.1,e2.2,hti] at k2
  simp at k0 k1 k2
  obtain ⟨T,i0,-,r0⟩:=DataW.trod_int hi k0;obtain ⟨M,i1,-,r1⟩:=DataW.trod_int hi k1;obtain ⟨B,i2,-,r2⟩:=DataW.trod_int hi k2;simp only [List.cons.injEq,and_true] at i0 i1 i2;subst i0 i1 i2;exact ⟨⟨T,M,B⟩,rfl,wf_64 r0,wf_64 r1,wf_64 r2⟩

end

end

section
open Go.RowKit

def PT.Rng (x:PT):Prop:=I64 x.k∧I64 x.v.r∧I64 x.v.c∧I64 x.v.h∧I64 x.v.b∧I64 x.v.p

section
open Go.ChangeShapes Go.WideShapes Go.ChangeAt
variable {H:Type} {enc:TypeId × Value→H} {P:Program} {w:World}

theorem zgm {tp ti:TypeId} {g0 g1 g2 g3 g4:Field} (hs:P.underlying tp=some (.struct #[g0,g1,g2,g3,g4])) (hi:P.underlying ti=some (.int .i64))
  (e0:g0.type=ti∧g0.offset=0) (e1:g1.type=ti∧g1.offset=1) (e2:g2.type=ti∧g2.offset=2) (e3:g3.type=ti∧g3.offset=3) (e4:g4.type=ti∧g4.offset=4) (hC:P.cellsOf tp=5) (hti:P.cellsOf ti=1)
  {fuel:Nat} {cs:List Value} {x:DataW H × List MemPlace} (h:DataW.trod enc P w 0 (fun _=>true) true fuel tp cs=some x):∃y:VD,cs=[.int .i64 y.r,.int .i64 y.c,.int .i64 y.h,.int .i64 y.b,.int .i64 y.p]∧I64 y.r∧I64 y.c∧I64 y.h∧I64 y.b∧I64 y.p:=by
 obtain ⟨xs,n,_,_,hlen,hxl,hq⟩:=DataW.trod_struct hs h;rw [hC] at hlen
 match xs,hxl,cs,hlen with
 | [y0,y1,y2,y3,y4],_,[v0,v1,v2,v3,v4],_ =>
  have k0:=hq 0 g0 rfl;have k1:=hq 1 g1 rfl;have k2:=hq 2 g2 rfl;have k3:=hq 3 g3 rfl;have k4:=hq 4 g4 rfl;rw [e0.1,e0.2,hti] at k0;rw [e1.1,e1.2,hti] at k1;rw [e2.1,e2.2,hti] at k2;rw [e3.1,e3.2,hti] at k3;rw [e4.1,e4.2,hti] at k4
  simp at k0 k1 k2 k3 k4
  obtain ⟨A,i0,-,r0⟩:=DataW.trod_int hi k0;obtain ⟨B,i1,-,r1⟩:=DataW.trod_int hi k1;obtain ⟨C,i2,-,r2⟩:=DataW.trod_int hi k2;obtain ⟨D,i3,-,r3⟩:=DataW.trod_int hi k3;obtain ⟨E,i4,-,r4⟩:=DataW.trod_int hi k4;simp only [List.cons.injEq,and_true] at i0 i1 i2 i3 i4;subst i0 i1 i2 i3 i4;exact ⟨⟨A,B,C,D,E⟩,rfl,wf_64 r0,wf_64 r1,wf_64 r2,wf_64 r3,wf_64 r4⟩

theorem zgA {tp tv ti tb:TypeId} {f0 f1 f2 f3 g0 g1 g2 g3 g4:Field} (hp:P.underlying tp=some (.struct #[f0,f1,f2,f3])) (hs:P.underlying tv=some (.struct #[g0,g1,g2,g3,g4])) (hi:P.underlying ti=some (.int .i64)) (hb:P.underlying tb=some .bool)
  (e0:g0.type=ti∧g0.offset=0) (e1:g1.type=ti∧g1.offset=1) (e2:g2.type=ti∧g2.offset=2) (e3:g3.type=ti∧g3.offset=3) (e4:g4.type=ti∧g4.offset=4)
  (d0:f0.type=tb∧f0.offset=0) (d1:f1.type=ti∧f1.offset=1) (d2:f2.type=tb∧f2.offset=2) (d3:f3.type=tv∧f3.offset=3)
  (hC:P.cellsOf tp=8) (hCv:P.cellsOf tv=5) (hti:P.cellsOf ti=1) (htb:P.cellsOf tb=1)
  {fuel:Nat} {cs:List Value} {x:DataW H × List MemPlace} (h:DataW.trod enc P w 0 (fun _=>true) true fuel tp cs=some x):∃y,cs=ptF.cs y∧y.Rng:=by
 obtain ⟨xs,n,_,_,hlen,hxl,hq⟩:=DataW.trod_struct hp h;rw [hC] at hlen
 match xs,hxl,cs,hlen with
 | [y0,y1,y2,y3],_,[v0,v1,v2,v3,v4,v5,v6,v7],_ =>
  have k0:=hq 0 f0 rfl;have k1:=hq 1 f1 rfl;have k2:=hq 2 f2 rfl;have k3:=hq 3 f3 rfl;rw [d0.1,d0.2,htb] at k0;rw [d1.1,d1.2,hti] at k1;rw [d2.1,d2.2,htb] at k2;rw [d3.1,d3.2,hCv] at k3
  simp at k0 k1 k2 k3
  obtain ⟨U,i0,-⟩:=DataW.trod_bool hb k0;obtain ⟨K,i1,-,r1⟩:=DataW.trod_int hi k1;obtain ⟨A,i2,-⟩:=DataW.trod_bool hb k2;obtain ⟨V,i3,s0,s1,s2,s3,s4⟩:=zgm hs hi e0 e1 e2 e3 e4 hCv hti k3;simp only [List.cons.injEq,and_true] at i0 i1 i2 i3;obtain ⟨j0,j1,j2,j3,j4⟩:=i3;subst i0 i1 i2 j0 j1 j2 j3 j4;exact ⟨⟨U,K,A,V⟩,rfl,wf_64 r1,s0,s1,s2,s3,s4⟩

theorem zf4 {ts tp tv ti tb:TypeId} {f0 f1 f2 f3 g0 g1 g2 g3 g4:Field} (hts:P.underlying ts=some (.slice tp)) (hp:P.underlying tp=some (.struct #[f0,f1,f2,f3])) (hs:P.underlying tv=some (.struct #[g0,g1,g2,g3,g4])) (hi:P.underlying ti=some (.int .i64)) (hb:P.underlying tb=some .bool)
  (e0:g0.type=ti∧g0.offset=0) (e1:g1.type=ti∧g1.offset=1) (e2:g2.type=ti∧g2.offset=2) (e3:g3.type=ti∧g3.offset=3) (e4:g4.type=ti∧g4.offset=4)
  (d0:f0.type=tb∧f0.offset=0) (d1:f1.type=ti∧f1.offset=1) (d2:f2.type=tb∧f2.offset=2) (d3:f3.type=tv∧f3.offset=3)
  (hC:P.cellsOf tp=8) (hCv:P.cellsOf tv=5) (hti:P.cellsOf ti=1) (htb:P.cellsOf tb=1)
  {fuel:Nat} {v:Value} {x:DataW H × List MemPlace} (h:DataW.trod enc P w 0 (fun _=>true) true fuel ts [v]=some x) :
  ∃a n c l,v=.slice a n c∧GRow ptF w a n c l∧∀x∈l,x.Rng :=
 zcx ⟨false,0,false,⟨0,0,0,0,0⟩⟩ ptF PT.Rng hts hC (fun h=>zgA hp hs hi hb e0 e1 e2 e3 e4 d0 d1 d2 d3 hC hCv hti htb h) h
end

end

end Go.Proofs.YtcpdkcdfnpcemabGreat
