/-
  Packed: NetFlat VlanBits PtOpen BrOpen NetOpen Made PtHelp VrowHelp OwnGen ImplIn FlatCopy PtLaws BrLaws VecNums VecNear VecOk VecStep PtOkI.
-/
import Derived.Test.YtkcoehmpnkdinaaGreatPNK02
import Derived.ProofKit
import Derived.OpenShut
import Derived.ShutString
import Derived.ChangeOld
import Derived.Below
import Derived.Laws.CopyRow
import Derived.Lib.AppendZeros
import Derived.Lib.Overlaps
import Derived.Lib.MinMax
namespace Go.Proofs.YtkcoehmpnkdinaaGreat
set_option maxRecDepth 100000
set_option maxHeartbeats 16000000
open Go.RowKit

def LK.zero:LK:=⟨0,0,0,0⟩

theorem zew {w:World} {g:Nat} {T:TypeId} {c0 c1 c2 c3 c4 c5 c6:Value} (h:w.heap[g]? = some (.cells #[c0,c1,c2,c3,c4,c5,c6] T)) :
  w.cell? ⟨g,0,none⟩=some c0∧w.cell? ⟨g,1,none⟩=some c1∧w.cell? ⟨g,2,none⟩=some c2∧w.cell? ⟨g,3,none⟩=some c3∧w.cell? ⟨g,4,none⟩=some c4∧w.cell? ⟨g,5,none⟩=some c5∧w.cell? ⟨g,6,none⟩=some c6:=by
 simp [World.cell?,h]

theorem zbn {w w':World} {b off n cap:Nat} {l:List SY} (h:GRow sayF w (some ⟨b,off,none⟩) n cap l) (hb:Below w.heap.size w w') {i:Nat} {x:SY} (hx:l[i]? = some x) :
  w'.cell? ⟨b,off+i*7,none⟩=some (.int .i64 x.l)∧w'.cell? ⟨b,off+i*7+1,none⟩=some (.bool x.back)∧w'.cell? ⟨b,off+i*7+2,none⟩=some (.int .i64 x.v.r)∧w'.cell? ⟨b,off+i*7+3,none⟩=some (.int .i64 x.v.c)∧w'.cell? ⟨b,off+i*7+4,none⟩=some (.int .i64 x.v.h)∧w'.cell? ⟨b,off+i*7+5,none⟩=some (.int .i64 x.v.b)∧w'.cell? ⟨b,off+i*7+6,none⟩=some (.int .i64 x.v.p):=by
 have hi:i < n:=by
  have:=(List.getElem?_eq_some_iff.1 hx).1
  have:=h.size
  omega
 obtain ⟨y,b',off',hy,e,c⟩:=zg6 (h.below hb) i hi;cases e;rw [hx] at hy;cases hy;exact c

def SY.zero:SY:=⟨0,false,⟨0,0,0,0,0⟩⟩

def I64 (x:Int):Prop := -9223372036854775808≤x∧x≤9223372036854775807

def VR.Rng (r:VR):Prop:=I64 r.i∧I64 r.m∧I64 r.b

theorem bv_of (x:Int):(BitVec.ofInt 64 x).toNat=(x % 18446744073709551616).toNat:=by
 rw [BitVec.toNat_ofInt]
 rfl

theorem zkb (x:BitVec 64):IntKind.i64.wrap (x.toNat:Int)=x.toInt:=by
 have:=x.isLt
 rw [IntKind.wrap_i64,BitVec.toInt_eq_toNat_cond]
 split <;> omega

theorem zdv (a b:Int):bits .and .i64 a b=(BitVec.ofInt 64 a &&& BitVec.ofInt 64 b).toInt:=by
 rw [← zkb]
 rfl
theorem zhd (a b:Int):bits .andNot .i64 a b=(BitVec.ofInt 64 a &&& ~~~(BitVec.ofInt 64 b)).toInt:=by
 rw [← zkb]
 rfl

theorem zfM {x:BitVec 64}:x.toInt=0↔x=0#64:=by
 rw [← BitVec.toInt_inj]
 simp

theorem zdP (x:Int) (h:I64 x):(BitVec.ofInt 64 x).toInt=x:=by
 unfold I64 at h;rw [BitVec.toInt_ofInt];rw [Int.bmod_def];omega

theorem zfp (b m:Int) (hb:I64 b):(bits .andNot .i64 b m == 0)=(bits .and .i64 b m == b):=by
 rw [zdv,zhd];have key:(BitVec.ofInt 64 b &&& ~~~(BitVec.ofInt 64 m))=0#64↔(BitVec.ofInt 64 b &&& BitVec.ofInt 64 m)=BitVec.ofInt 64 b:=by
  constructor
  ·intro h
   apply BitVec.eq_of_getLsbD_eq
   intro i hi
   have:=congrArg (fun z=>z.getLsbD i) h
   simp only [BitVec.getLsbD_and,BitVec.getLsbD_not,hi,decide_true,Bool.true_and,BitVec.getLsbD_zero] at this;simp only [BitVec.getLsbD_and];cases h1:(BitVec.ofInt 64 b).getLsbD i <;> cases h2:(BitVec.ofInt 64 m).getLsbD i <;> simp_all
  ·intro h
   apply BitVec.eq_of_getLsbD_eq
   intro i hi
   have:=congrArg (fun z=>z.getLsbD i) h
   simp only [BitVec.getLsbD_and] at this;simp only [BitVec.getLsbD_and,BitVec.getLsbD_not,hi,decide_true,Bool.true_and,BitVec.getLsbD_zero];cases h1:(BitVec.ofInt 64 b).getLsbD i <;> cases h2:(BitVec.ofInt 64 m).getLsbD i <;> simp_all
 have e2:((BitVec.ofInt 64 b &&& BitVec.ofInt 64 m).toInt=b)↔(BitVec.ofInt 64 b &&& BitVec.ofInt 64 m)=BitVec.ofInt 64 b:=by
  constructor
  ·intro h
   apply BitVec.toInt_inj.1
   rw [h,zdP b hb]
  ·intro h;rw [h,zdP b hb]
 have e1:=zfM (x:=BitVec.ofInt 64 b &&& ~~~(BitVec.ofInt 64 m));rw [Bool.eq_iff_iff];simp only [beq_iff_eq];rw [e1,key,e2]

theorem zll (p:Nat) (hp:p≤6):(BitVec.ofInt 64 (allOf p)).toNat=2 ^ p - 1:=by
 rcases (show p=0∨p=1∨p=2∨p=3∨p=4∨p=5∨p=6 by omega) with rfl | rfl | rfl | rfl | rfl | rfl | rfl <;> rfl

theorem zjS (p:Nat) (hp:p≤6):(2:Nat) ^ p≤64∧((2:Int) ^ p=((2 ^ p:Nat):Int))∧1≤(2:Nat) ^ p:=by
 rcases (show p=0∨p=1∨p=2∨p=3∨p=4∨p=5∨p=6 by omega) with rfl | rfl | rfl | rfl | rfl | rfl | rfl <;> exact ⟨by decide,rfl,by decide⟩

theorem zhc (m:Int) (p:Nat) (hm:I64 m) (hp:p≤6):(bits .andNot .i64 m (allOf p) == 0)=in3 m 0 (allOf p):=by
 rw [zfp m _ hm,zdv];have hn:(BitVec.ofInt 64 m &&& BitVec.ofInt 64 (allOf p)).toNat=(BitVec.ofInt 64 m).toNat % 2 ^ p:=by
  rw [BitVec.toNat_and,zll p hp,Nat.and_two_pow_sub_one_eq_mod]
 have e2:((BitVec.ofInt 64 m &&& BitVec.ofInt 64 (allOf p)).toInt=m)↔(BitVec.ofInt 64 m &&& BitVec.ofInt 64 (allOf p)).toNat=(BitVec.ofInt 64 m).toNat:=by
  constructor
  ·intro h
   have:(BitVec.ofInt 64 m &&& BitVec.ofInt 64 (allOf p))=BitVec.ofInt 64 m:=by
    apply BitVec.toInt_inj.1
    rw [h,zdP m hm]
   rw [this]
  ·intro h;rw [BitVec.eq_of_toNat_eq h,zdP m hm]
 rw [Bool.eq_iff_iff];simp only [beq_iff_eq];rw [e2,hn,bv_of m];obtain ⟨h64,hc,h1⟩:=zjS p hp;unfold in3 allOf;rw [hc];unfold I64 at hm;generalize (2:Nat) ^ p=q at *;simp only [Bool.and_eq_true,decide_eq_true_eq]
 constructor
 ·intro h
  have:(m % 18446744073709551616).toNat % q < q:=Nat.mod_lt _ (by omega)
  omega
 ·intro h;rw [Nat.mod_eq_of_lt (by omega)]

theorem zi9 (b m:Int) (p:Nat) (hb:I64 b) (hp:p≤6) (hm:in3 m 0 (allOf p)=true) (h:(bits .and .i64 b m == b)=true):in3 b 0 (allOf p)=true:=by
 obtain ⟨h64,hc,h1⟩:=zjS p hp;unfold in3 allOf at hm ⊢;rw [hc] at hm ⊢;generalize (2:Nat) ^ p=q at *;simp only [Bool.and_eq_true,decide_eq_true_eq,beq_iff_eq] at *;have hmI:I64 m:=by unfold I64; omega
 rw [zdv] at h;have e:(BitVec.ofInt 64 b &&& BitVec.ofInt 64 m)=BitVec.ofInt 64 b:=by
  apply BitVec.toInt_inj.1
  rw [h,zdP b hb]
 have e':=congrArg BitVec.toNat e;rw [BitVec.toNat_and,bv_of b,bv_of m] at e'
 have:(b % 18446744073709551616).toNat &&& (m % 18446744073709551616).toNat≤(m % 18446744073709551616).toNat:=Nat.and_le_right
 unfold I64 at hb;omega

theorem zj8 (r:VR) (p:Nat) (hr:r.Rng) (hp:p≤6):(in3 r.i 1 99 && (bits .andNot .i64 r.m (allOf p) == 0) && (bits .andNot .i64 r.b r.m == 0))=zbi (allOf p) r:=by
 rw [zhc r.m p hr.2.1 hp,zfp r.b r.m hr.2.2];unfold zbi;cases h1:in3 r.i 1 99
 ·rfl
 ·cases h2:in3 r.m 0 (allOf p)
  ·rfl
  ·cases h3:(bits .and .i64 r.b r.m == r.b)
   ·simp
   ·rw [zi9 r.b r.m p hr.2.2 hp h2 h3]
    rfl

theorem zlc (n k:Nat):n &&& 2 ^ k=(n.testBit k).toNat*2 ^ k:=by
 apply Nat.eq_of_testBit_eq
 intro j;rw [Nat.testBit_and,Nat.testBit_two_pow];by_cases h:k=j
 ·subst h;cases n.testBit k
  ·simp
  ·simp
 ·cases n.testBit k
  ·simp [h]
  ·simp [h]

theorem zkh (n:Int) (k:Nat) (hk:k≤9) (hn:I64 n):(bits .and .i64 n (2 ^ k) != 0)=(bits .and .i64 (n / 2 ^ k) 1 == 1):=by
 have h1:I64 (n / 2 ^ k):=by
  unfold I64 at *;rcases (show k=0∨k=1∨k=2∨k=3∨k=4∨k=5∨k=6∨k=7∨k=8∨k=9 by omega) with rfl | rfl | rfl | rfl | rfl | rfl | rfl | rfl | rfl | rfl <;> simp <;> omega
 rw [zdv,zdv,bne,Bool.eq_iff_iff];simp only [Bool.not_eq_true',beq_eq_false_iff_ne,ne_eq,beq_iff_eq];rw [zfM];have a1:(BitVec.ofInt 64 (n / 2 ^ k) &&& BitVec.ofInt 64 1).toNat=(((n / 2 ^ k) % 18446744073709551616).toNat) % 2:=by
  rw [BitVec.toNat_and,bv_of _,show (BitVec.ofInt 64 1).toNat=2 ^ 1 - 1 from rfl,Nat.and_two_pow_sub_one_eq_mod]
 have a2:(BitVec.ofInt 64 n &&& BitVec.ofInt 64 (2 ^ k)).toNat=((n % 18446744073709551616).toNat.testBit k).toNat*2 ^ k:=by
  rw [BitVec.toNat_and,bv_of _,← zlc]
  congr 1
  rcases (show k=0∨k=1∨k=2∨k=3∨k=4∨k=5∨k=6∨k=7∨k=8∨k=9 by omega) with rfl | rfl | rfl | rfl | rfl | rfl | rfl | rfl | rfl | rfl <;> rfl
 have a3:((BitVec.ofInt 64 (n / 2 ^ k) &&& BitVec.ofInt 64 1).toInt=1)↔(((n / 2 ^ k) % 18446744073709551616).toNat) % 2=1:=by
  rw [← a1,BitVec.toInt_eq_toNat_cond]
  have:=(BitVec.ofInt 64 (n / 2 ^ k) &&& BitVec.ofInt 64 1).isLt
  have h2:(BitVec.ofInt 64 (n / 2 ^ k) &&& BitVec.ofInt 64 1).toNat < 2:=by rw [a1]; omega
  rw [if_pos (by omega)];omega
 have a4:((BitVec.ofInt 64 n &&& BitVec.ofInt 64 (2 ^ k))=0#64)↔(n % 18446744073709551616).toNat.testBit k=false:=by
  rw [← BitVec.toNat_inj,a2]
  have:0 < 2 ^ k:=Nat.two_pow_pos k
  cases (n % 18446744073709551616).toNat.testBit k
  ·simp
  ·simp
 rw [a3,a4,Bool.not_eq_false,Nat.testBit_eq_decide_div_mod_eq,decide_eq_true_eq];unfold I64 at hn;rcases (show k=0∨k=1∨k=2∨k=3∨k=4∨k=5∨k=6∨k=7∨k=8∨k=9 by omega) with rfl | rfl | rfl | rfl | rfl | rfl | rfl | rfl | rfl | rfl <;> simp <;> omega

section
open Go.RowKit

def PT.Rng (x:PT):Prop:=I64 x.k∧I64 x.v.r∧I64 x.v.c∧I64 x.v.h∧I64 x.v.b∧I64 x.v.p

section
open Go.ChangeShapes Go.WideShapes Go.ChangeAt
variable {H:Type} {enc:TypeId × Value→H} {P:Program} {w:World}

end

end

section
open Go.RowKit

structure BR.Rng (b:BR):Prop where
 id:I64 b.id
 name:b.name.size≤maxLen
 ports:∀x∈b.ports,x.Rng
 f:∀x∈b.f,x.Rng
 v:∀x∈b.v.rows,x.Rng
 ticks:I64 b.ticks
 parse:I64 b.parse
 word:I64 b.word
 drops:I64 b.drops
 vers:I64 b.vers

section
open Go.ChangeShapes Go.WideShapes Go.ChangeAt
variable {H:Type} {enc:TypeId × Value→H} {P:Program} {w:World}

end

end

section
open Go.RowKit

def LK.Rng (x:LK):Prop:=I64 x.a∧I64 x.p∧I64 x.b∧I64 x.q
def SY.Rng (x:SY):Prop:=I64 x.l∧I64 x.v.r∧I64 x.v.c∧I64 x.v.h∧I64 x.v.b∧I64 x.v.p

structure NV.Rng (N:NV):Prop where
 b:∀x∈N.bs,x.B.Rng
 l:∀x∈N.ls,x.Rng
 s:∀x∈N.ss,x.Rng

section
open Go.ChangeShapes Go.WideShapes Go.ChangeAt
variable {H:Type} {enc:TypeId × Value→H} {P:Program} {w:World}

def BV.zero:BV:=⟨none,0,0,none,0,0,none,0,0,none,0,0,⟨0,⟨#[]⟩,[],[],⟨[],[]⟩,0,0,0,0,0⟩⟩

end

end

theorem zaj {K:World→Prop} {W:World} {o:Obj} (h:∀wx,wx.heap[W.heap.size]? = some o→Below W.heap.size W wx→K wx):K (W.alloc o):=h _ (zt W o) (zg W o)

theorem zab {K:World→Prop} {W:World} {o:Obj} (h:∀wx,wx.heap[W.heap.size]? = some o→Below W.drew.heap.size W.drew wx→K wx):K (W.alloc o).drew:=h _ (zt W o) (zg W.drew o)

def PT.zero:PT:=⟨false,0,false,⟨0,0,0,0,0⟩⟩

theorem zlS {w:World} {base g n cap:Nat} {pre post:List PT} {x y:PT} (h:w.ownsRow base 79 8 (.slice (some ⟨g,0,none⟩) n cap) n (ptF.all (pre++x::post))) :
  ((((((((w.setCell ⟨g,pre.length*8,none⟩ (.bool y.up)).setCell ⟨g,pre.length*8+1,none⟩ (.int .i64 y.k)).setCell ⟨g,pre.length*8+2,none⟩ (.bool y.has)).setCell ⟨g,pre.length*8+3,none⟩ (.int .i64 y.v.r)).setCell ⟨g,pre.length*8+4,none⟩ (.int .i64 y.v.c)).setCell ⟨g,pre.length*8+5,none⟩ (.int .i64 y.v.h)).setCell ⟨g,pre.length*8+6,none⟩ (.int .i64 y.v.b)).setCell ⟨g,pre.length*8+7,none⟩ (.int .i64 y.v.p)).ownsRow base 79 8 (.slice (some ⟨g,0,none⟩) n cap) n (ptF.all (pre++y::post)):=by
 have R0:=zK (F:=ptF) (x':=⟨y.up,x.k,x.has,⟨x.v.r,x.v.c,x.v.h,x.v.b,x.v.p⟩⟩) h 0 (.bool y.up) (by decide) rfl;have R1:=zK (F:=ptF) (x':=⟨y.up,y.k,x.has,⟨x.v.r,x.v.c,x.v.h,x.v.b,x.v.p⟩⟩) R0 1 (.int .i64 y.k) (by decide) rfl;have R2:=zK (F:=ptF) (x':=⟨y.up,y.k,y.has,⟨x.v.r,x.v.c,x.v.h,x.v.b,x.v.p⟩⟩) R1 2 (.bool y.has) (by decide) rfl;have R3:=zK (F:=ptF) (x':=⟨y.up,y.k,y.has,⟨y.v.r,x.v.c,x.v.h,x.v.b,x.v.p⟩⟩) R2 3 (.int .i64 y.v.r) (by decide) rfl;have R4:=zK (F:=ptF) (x':=⟨y.up,y.k,y.has,⟨y.v.r,y.v.c,x.v.h,x.v.b,x.v.p⟩⟩) R3 4 (.int .i64 y.v.c) (by decide) rfl;have R5:=zK (F:=ptF) (x':=⟨y.up,y.k,y.has,⟨y.v.r,y.v.c,y.v.h,x.v.b,x.v.p⟩⟩) R4 5 (.int .i64 y.v.h) (by decide) rfl;have R6:=zK (F:=ptF) (x':=⟨y.up,y.k,y.has,⟨y.v.r,y.v.c,y.v.h,y.v.b,x.v.p⟩⟩) R5 6 (.int .i64 y.v.b) (by decide) rfl;exact zK (F:=ptF) (x':=y) R6 7 (.int .i64 y.v.p) (by decide) rfl

theorem zfu {w:World} {g:Nat} (j0 j1 j2 j3 j4 j5 j6 j7:Nat) (u0 u1 u2 u3 u4 u5 u6 u7:Value):w.grownBy ((((((((w.setCell ⟨g,j0,none⟩ u0).setCell ⟨g,j1,none⟩ u1).setCell ⟨g,j2,none⟩ u2).setCell ⟨g,j3,none⟩ u3).setCell ⟨g,j4,none⟩ u4).setCell ⟨g,j5,none⟩ u5).setCell ⟨g,j6,none⟩ u6).setCell ⟨g,j7,none⟩ u7) (some g) :=
 zM (zM (zM (zM (zM (zM (zM (zm _ _) (zm _ _)) (zm _ _)) (zm _ _)) (zm _ _)) (zm _ _)) (zm _ _)) (zm _ _)

theorem zem {w:World} {base g n cap:Nat} {T:TypeId} {l:List PT} (h:w.ownsRow base T 8 (.slice (some ⟨g,0,none⟩) n cap) n (ptF.all l)) {i:Nat} {x:PT} (hx:l[i]? = some x) :
  (w.cell? ⟨g,i*8,none⟩=some (.bool x.up)∧w.cell? ⟨g,i*8+1,none⟩=some (.int .i64 x.k)∧w.cell? ⟨g,i*8+2,none⟩=some (.bool x.has)∧w.cell? ⟨g,i*8+3,none⟩=some (.int .i64 x.v.r)∧w.cell? ⟨g,i*8+4,none⟩=some (.int .i64 x.v.c)∧w.cell? ⟨g,i*8+5,none⟩=some (.int .i64 x.v.h)∧w.cell? ⟨g,i*8+6,none⟩=some (.int .i64 x.v.b)∧w.cell? ⟨g,i*8+7,none⟩=some (.int .i64 x.v.p)) ∧
  (w.frozen? ⟨g,i*8,none⟩=false∧w.frozen? ⟨g,i*8+1,none⟩=false∧w.frozen? ⟨g,i*8+2,none⟩=false∧w.frozen? ⟨g,i*8+3,none⟩=false∧w.frozen? ⟨g,i*8+4,none⟩=false∧w.frozen? ⟨g,i*8+5,none⟩=false∧w.frozen? ⟨g,i*8+6,none⟩=false∧w.frozen? ⟨g,i*8+7,none⟩=false):=by
 have c0:=zag (F:=ptF) h hx (j:=0) (v:=.bool x.up) rfl;have c1:=zag (F:=ptF) h hx (j:=1) (v:=.int .i64 x.k) rfl;have c2:=zag (F:=ptF) h hx (j:=2) (v:=.bool x.has) rfl;have c3:=zag (F:=ptF) h hx (j:=3) (v:=.int .i64 x.v.r) rfl;have c4:=zag (F:=ptF) h hx (j:=4) (v:=.int .i64 x.v.c) rfl;have c5:=zag (F:=ptF) h hx (j:=5) (v:=.int .i64 x.v.h) rfl;have c6:=zag (F:=ptF) h hx (j:=6) (v:=.int .i64 x.v.b) rfl;have c7:=zag (F:=ptF) h hx (j:=7) (v:=.int .i64 x.v.p) rfl;exact ⟨⟨c0.1,c1.1,c2.1,c3.1,c4.1,c5.1,c6.1,c7.1⟩,c0.2,c1.2,c2.2,c3.2,c4.2,c5.2,c6.2,c7.2⟩

def VR.zero:VR:=⟨0,0,0⟩

def blkL (ao:Option Addr):List Nat:=match ao with | some a=>[a.block] | none=>[]

theorem zaq {ao:Option Addr} {n c b:Nat}:(Value.slice ao n c).ownBlock=some b↔b∈blkL ao:=by
 cases ao <;> simp [Value.ownBlock,blkL,eq_comm]

structure Only (bs:List Nat) (w w':World):Prop where
 os:w'.os=w.os
 tape:w'.tape=w.tape
 output:w'.output=w.output
 size:w.heap.size≤w'.heap.size
 block:∀k,k < w.heap.size→k∉bs→w'.heap[k]? = w.heap[k]?

theorem Only.refl (bs:List Nat) (w:World):Only bs w w:=⟨rfl,rfl,rfl,Nat.le_refl _,fun _ _ _=>rfl⟩
theorem Only.trans {bs:List Nat} {a b c:World} (h:Only bs a b) (k:Only bs b c):Only bs a c :=
 ⟨k.os.trans h.os,k.tape.trans h.tape,k.output.trans h.output,Nat.le_trans h.size k.size,fun i hi hn=>(k.block i (Nat.lt_of_lt_of_le hi h.size) hn).trans (h.block i hi hn)⟩
theorem Only.wider {bs cs:List Nat} {a b:World} (h:Only bs a b) (hs:∀x∈bs,x∈cs):Only cs a b :=
 ⟨h.os,h.tape,h.output,h.size,fun k hk hn=>h.block k hk (fun hb=>hn (hs k hb))⟩
theorem Only.of_below {bs:List Nat} {a b:World} (h:Below a.heap.size a b):Only bs a b:=⟨h.os,h.tape,h.output,h.size,fun k hk _=>h.block k hk⟩
theorem Only.of_grown {ao:Option Addr} {n c:Nat} {a b:World} (h:a.grownBy b (Value.slice ao n c).ownBlock):Only (blkL ao) a b :=
 ⟨h.os,h.tape,h.output,h.size,fun k hk hn=>h.block k hk (fun e=>hn (zaq.1 e.symm))⟩
theorem Only.set (w:World) (g j:Nat) (u:Value):Only [g] w (w.setCell ⟨g,j,none⟩ u) :=
 ⟨rfl,rfl,rfl,by simp,fun k _ hn=>Below.heap_setCell _ _ _ _ (by intro e; exact hn (by simp [e]))⟩
theorem Only.below {bs:List Nat} {w w':World} (h:Only bs w w') {B:Nat} (hB:B≤w.heap.size) (hs:∀b∈bs,B≤b):Below B w w' :=
 ⟨h.os,h.tape,h.output,h.size,fun k hk=>h.block k (by omega) (fun hb=>by have:=hs k hb; omega)⟩
theorem Only.kept {bs:List Nat} {w w':World} (h:Only bs w w') {i:Nat} {o:Obj} (hi:w.heap[i]? = some o) (hn:i∉bs):w'.heap[i]? = some o:=by
 rw [h.block i (Array.getElem?_eq_some_iff.1 hi).1 hn]; exact hi
theorem Only.own {bs:List Nat} {w w':World} {base:Nat} {e:TypeId} {size:Nat} {v:Value} {n:Nat} {xs:List Value} (h:Only bs w w') (ho:w.ownsRow base e size v n xs) (hn:∀k,v.ownBlock=some k→k∉bs):w'.ownsRow base e size v n xs:=by
 obtain ⟨hl,h0 | ⟨g,cap,cur,rfl,hg,hh,r⟩⟩:=ho
 ·exact ⟨hl,.inl h0⟩
 ·exact ⟨hl,.inr ⟨g,cap,cur,rfl,hg,h.kept hh (hn g rfl),r⟩⟩

theorem ziS {w w':World} {base:Nat} {e:TypeId} {size:Nat} {v:Value} {n:Nat} {xs:List Value} (h:w.ownsRow base e size v n xs) (hb:Below w.heap.size w w'):w'.ownsRow base e size v n xs :=
 (Only.of_below (bs:=[]) hb).own h (by intro k _ hk; cases hk)
theorem zlp {w:World} {base:Nat} {e:TypeId} {size:Nat} {v:Value} {n:Nat} {xs:List Value} (h:w.ownsRow base e size v n xs) {base':Nat} (hle:base'≤base):w.ownsRow base' e size v n xs:=by
 obtain ⟨hl,h | ⟨g,cap,cur,rfl,hg,r⟩⟩:=h
 ·exact ⟨hl,.inl h⟩
 ·exact ⟨hl,.inr ⟨g,cap,cur,rfl,by omega,r⟩⟩

theorem zcg {w:World} {base base':Nat} {e e':TypeId} {s s':Nat} {v v':Value} {n n':Nat} {xs xs':List Value} (h:w.ownsRow base e s v n xs) (h':w.ownsRow base' e' s' v' n' xs') (hne:e≠e') {k:Nat} (hk:v.ownBlock=some k):v'.ownBlock≠some k:=by
 intro hk';rcases h.2 with ⟨rfl,_⟩ | ⟨g,cap,cur,rfl,_,hh,_⟩
 ·cases hk
 ·rcases h'.2 with ⟨rfl,_⟩ | ⟨g',cap',cur',rfl,_,hh',_⟩
  ·cases hk'
  ·simp only [Value.ownBlock,Option.some.injEq] at hk hk';subst hk hk';rw [hh] at hh';cases hh';exact hne rfl

theorem zF (n lo hi:Int) (w:World):Calls Tryz.prog 23 #[.int .i64 n,.int .i64 lo,.int .i64 hi] w fun e w'=>e=.returned (.bool (decide (lo≤n) && decide (n≤hi)))∧w'=w:=by
 by_cases h1:lo≤n
 ·by_cases h2:n≤hi
  ·rw [decide_eq_true h1,decide_eq_true h2];go_enter Tryz.func23,Tryz.ntmps23;go_wp2;go_ret;exact ⟨rfl,rfl⟩
  ·rw [decide_eq_true h1,decide_eq_false h2];go_enter Tryz.func23,Tryz.ntmps23;go_wp2;go_ret;exact ⟨rfl,rfl⟩
 ·rw [decide_eq_false h1,Bool.false_and];go_enter Tryz.func23,Tryz.ntmps23;go_wp2;go_ret;exact ⟨rfl,rfl⟩

theorem zdM {P:Program} (w:World) (dT sT ty elem:TypeId) (g o dLen dCap:Nat) (a:Addr) (sLen sCap:Nat) (cur:Array Value) (t:TypeId) (cs:List Value) (K:Nat)
  (hu:P.underlying dT=some (.slice elem)) (hs:(P.info? elem).map (·.size)=some K)
  (hg:w.heap[g]? = some (.cells cur t (0,0))) (hn:cs.length=Nat.min sLen dLen*K)
  (hsrc:∀j v,cs[j]? = some v→w.cell? (a.add j)=some v) (hfit:o+cs.length≤cur.size) (h1:∀v∈cs,v.oneCell'=true) :
  (Builtin.copy_ #[dT,sT] ty #[.slice (some ⟨g,o,none⟩) dLen dCap,.slice (some a) sLen sCap]).run P w =
   .ok (goInt (Nat.min sLen dLen)) (w.setRow g (cur.toList.take o++cs++cur.toList.drop (o+cs.length)).toArray):=by
 have hl:=run_loadCells_list (P:=P) w a cs hsrc;have hst:=run_storeCells_at P g o t cs 0 cur w hg (by simpa using hfit) h1;cases hq:P.info? elem with
 | none=>simp [hq] at hs
 | some i =>
  have hi:i.size=K:=by simpa [hq] using hs
  simp [Builtin.copy_,run_underlying hu,Builtin.lenOf,Builtin.firstCells,sizeOf,typeInfo,hq,hi,← hn,hl,hst]

theorem zi6 {P:Program} (w:World) {o:Oper} {a:Act} {K:Act→World→Prop} {Q:Exit→Act→World→Prop} (d s:Operand) (t t':TypeId)
  (ho:o.op=.call { callee:=.builtin .copy,args:=#[d,s],argTypes:=#[t,t'] }) (v u:Value) (hd:a.eval d=v) (hs:a.eval s=u) {v':Value} {w':World}
  (hr:(Builtin.copy_ #[t,t'] o.type #[v,u]).run P w=.ok v' w') (h:K (a.put o.dst v') w'):o.wp P a w K Q:=by
 unfold Oper.wp execOp;simp only [ho,resolve,invoke,builtin,Sem.run_bind,Sem.run_pure,Result.andThen_ok,List.map_toArray,List.map_cons,List.map_nil,hd,hs,hr];exact h

theorem zdk {P:Program} (w:World) {ops:Array Oper} {rest:List Oper} {o:Oper} {a:Act} {Q:Exit→Act→World→Prop} (hgd:o.guard=none) (d s:Operand) (t t':TypeId)
  (ho:o.op=.call { callee:=.builtin .copy,args:=#[d,s],argTypes:=#[t,t'] }) (v u:Value) (hd:a.eval d=v) (hs:a.eval s=u) {v':Value} {w':World}
  (hr:(Builtin.copy_ #[t,t'] o.type #[v,u]).run P w=.ok v' w') (h:wpList P ops Q rest (a.put o.dst v') w'):wpList P ops Q (o::rest) a w :=
 wpList_plain hgd fun _ hK=>zi6 w d s t t' ho v u hd hs hr (hK _ _ h)

theorem zed {P:Program} {ops:Array Oper} {o:Oper} {a:Act} {w:World} {K:Act→World→Prop} {Q:Exit→Act→World→Prop} {E:Prop}
  (hg:o.guard=none) (d x:Operand) (dT sT:TypeId) (hop:o.op=Op.call { callee:=Callee.builtin Builtin.copy,args:=#[d,x],argTypes:=#[dT,sT] })
  (v u:Value) (hd:a.eval d=v) (hx:a.eval x=u) {v':Value} {w':World} (hr:(Builtin.copy_ #[dT,sT] o.type #[v,u]).run P w=.ok v' w') (hK:K (a.put o.dst v') w') :
  if Region.wanted o (yielded ops a.tmps)=true then Oper.wp P o a w K Q else E:=by
 have hw:Region.wanted o (yielded ops a.tmps)=true:=by simp [Region.wanted,hg]
 rw [if_pos hw];unfold Oper.wp
 simp [execOp,hop,resolve,invoke,builtin,hd,hx,hr,Result.andThen]
 exact hK

theorem zfP {id:Int} {l:List PT}:∀{k:Nat} {f:VD} {j:Nat},zbe id l k=some (f,j)→∃x,l[j]? = some x∧offers id x=true∧f=stepV x.v x.k
 | 0,f,j,h=>by simp [zbe] at h
 | k+1,f,j,h=>by
  rw [zbe] at h;cases hx:l[k]? with
  | none=>rw [hx] at h; exact zfP (k:=k) h
  | some x =>
   rw [hx] at h;simp only [zbx] at h;by_cases ho:offers id x=true
   ·rw [if_pos ho] at h;cases hs:zbe id l k with
    | none =>
     rw [hs] at h
     simp at h
     obtain ⟨rfl,rfl⟩:=h;exact ⟨x,hx,ho,rfl⟩
    | some s =>
     obtain ⟨g,i⟩:=s;rw [hs] at h
     simp only at h
     split at h
     ·simp at h
      obtain ⟨rfl,rfl⟩:=h;exact ⟨x,hx,ho,rfl⟩
     ·simp at h
      obtain ⟨rfl,rfl⟩:=h;exact zfP hs
   ·rw [if_neg ho] at h;exact zfP h

theorem zgN {id:Int} {x:PT} (h:offers id x=true):x.up=true∧x.has=true∧zdi x.v x.k=true∧x.v.r < id:=by
 unfold offers at h;simp only [Bool.and_eq_true,decide_eq_true_eq] at h;exact h

theorem zij {id:Int} {l:List PT} (port:Int):1≤zaH id l port∧zaH id l port≤4:=by
 unfold zaH
 split
 ·split
  ·unfold zdf
   repeat' split
   all_goals omega
  ·omega
 ·omega

def zdg (f:Nat→Bool):Nat→Int
 | 0=>0
 | k+1=>if f k=true then bits .or .i64 (zdg f k) (2 ^ k) else zdg f k

theorem zil (id:Int) (l:List PT):∀k,za2 id l k=zdg (fun i=>decide (zaH id l (i:Int)≤2)) k
 | 0=>rfl
 | k+1=>by
  rw [za2,zdg,zil id l k]
  simp

theorem zfK (f g:Nat→Bool):∀k,(∀i,i < k→f i=g i)→zdg f k=zdg g k
 | 0,_=>rfl
 | k+1,h=>by
  rw [zdg,zdg,zfK f g k (fun i hi=>h i (by omega)),h k (by omega)]

def six (b0 b1 b2 b3 b4 b5:Bool):Nat→Bool
 | 0=>b0
 | 1=>b1
 | 2=>b2
 | 3=>b3
 | 4=>b4
 | _=>b5

def zap (n:Int):Int:=if n≥1000000 then n else n+1

def zaz (bits:Int) (l:List FE):Nat→List FE
 | 0=>l
 | k+1=>if bitOf bits (k:Int)=true then zaz bits l k else zY (zaz bits l k) (k:Int)

def turned (b:BR):BR:={ b with vers:=zap b.vers,f:=zaz (zbc b.id b.ports) b.f b.ports.length }

def za9 (b:BR) (port:Int):Bool:=zz b && (decide (0≤port) && decide (port≤(b.ports.length:Int) - 1))

def hearB (b:BR) (port:Int) (v:VD):BR :=
 if za9 b port=true then
  match b.ports[port.toNat]? with
  | some x=>if (x.up && okVd v)=true then turned { b with ports:=b.ports.set port.toNat ⟨x.up,x.k,true,v⟩ } else b
  | none=>b
 else b

def linkB (b:BR) (port:Int) (up:Bool):BR :=
 if za9 b port=true then
  match b.ports[port.toNat]? with
  | some x=>turned { b with ports:=b.ports.set port.toNat ⟨up,x.k,false,⟨0,0,0,0,0⟩⟩ }
  | none=>b
 else b

def tickB (b:BR):BR:=if zz b=true then turned { b with ticks:=zap b.ticks,f:=ageF b.f } else b

theorem zh2 (x:Int):in1m x=true↔0≤x∧x≤1000000:=by
 unfold in1m
 simp

theorem zfz {n:Int} (h:in1m n=true):in1m (zap n)=true:=by
 rw [zh2] at *;unfold zap
 split <;> omega

theorem zdX (bits:Int) {l:List FE} (h:fdbOk l=true):∀k,fdbOk (zaz bits l k)=true
 | 0=>h
 | k+1=>by
  rw [zaz]
  split
  ·exact zdX bits h k
  ·exact zkt (zdX bits h k) _

theorem zcl (bits:Int) (l:List FE):∀k,(zaz bits l k).Sublist l
 | 0=>List.Sublist.refl _
 | k+1=>by
  rw [zaz]
  split
  ·exact zcl bits l k
  ·exact List.Sublist.trans List.filter_sublist (zcl bits l k)

theorem zad {b:BR} (h:zz b=true):b.ports.all ptOk=true∧in3 b.id 1 99=true∧(b.name.size:Int)≤10∧in3 (b.ports.length:Int) 1 6=true∧fdbOk b.f=true∧zU b.v (b.ports.length:Int)=true∧in1m b.ticks=true∧in1m b.parse=true∧in1m b.word=true∧in1m b.drops=true∧in1m b.vers=true:=by
 unfold zz zal at h;simp only [Bool.and_eq_true,decide_eq_true_eq] at h;obtain ⟨h1,h2,h3,h4,h5,h6,h7,h8,h9,h10,h11⟩:=h;exact ⟨h1,h2,h3,h4,h5,h6,h7,h8,h9,h10,h11⟩

theorem zdn {b:BR} (h:b.ports.all ptOk=true∧in3 b.id 1 99=true∧(b.name.size:Int)≤10∧in3 (b.ports.length:Int) 1 6=true∧fdbOk b.f=true∧zU b.v (b.ports.length:Int)=true∧in1m b.ticks=true∧in1m b.parse=true∧in1m b.word=true∧in1m b.drops=true∧in1m b.vers=true):zz b=true:=by
 obtain ⟨h1,h2,h3,h4,h5,h6,h7,h8,h9,h10,h11⟩:=h;unfold zz zal;rw [h1,h2,decide_eq_true h3,h4,h5,h6,h7,h8,h9,h10,h11]
 rfl

theorem ze3 {b:BR} (h:zz b=true):zz (turned b)=true:=by
 obtain ⟨h1,h2,h3,h4,h5,h6,h7,h8,h9,h10,h11⟩:=zad h;exact zdn ⟨h1,h2,h3,h4,zdX _ h5 _,h6,h7,h8,h9,h10,zfz h11⟩

theorem zga {b:BR} (h:zz b=true) {i:Nat} {y:PT} (hy:ptOk y=true):zz { b with ports:=b.ports.set i y }=true:=by
 obtain ⟨h1,h2,h3,h4,h5,h6,h7,h8,h9,h10,h11⟩:=zad h;refine zdn ⟨?_,h2,h3, ?_,h5, ?_,h7,h8,h9,h10,h11⟩
 ·rw [List.all_eq_true] at h1 ⊢;intro x hx;rcases List.mem_or_eq_of_mem_set hx with hx | rfl
  ·exact h1 x hx
  ·exact hy
 ·simpa using h4
 ·simpa using h6

theorem zhD {b:BR} (h:zz b=true) {i:Nat} {x:PT} (hx:b.ports[i]? = some x):ptOk x=true:=by
 have h1:=(zad h).1;rw [List.all_eq_true] at h1;exact h1 x (List.mem_of_getElem? hx)

theorem zlh {x:PT} {v:VD} (h:ptOk x=true) (hu:x.up=true) (hv:okVd v=true):ptOk ⟨x.up,x.k,true,v⟩=true:=by
 unfold ptOk at *;simp only [Bool.and_eq_true] at h
 simp [h.1,hu,hv]

theorem zlk {x:PT} (up:Bool) (h:ptOk x=true):ptOk ⟨up,x.k,false,⟨0,0,0,0,0⟩⟩=true:=by
 unfold ptOk at *;simp only [Bool.and_eq_true] at h
 simp [h.1,zee]

theorem zio {b:BR} {port:Int} (h:za9 b port=true):zz b=true:=by
 unfold za9 at h;simp only [Bool.and_eq_true] at h;exact h.1

theorem zkv {b:BR} (h:zz b=true) (port:Int) (v:VD):zz (hearB b port v)=true:=by
 unfold hearB
 split
 ·split
  ·next x hx =>
   split
   ·next hu =>
    simp only [Bool.and_eq_true] at hu;exact ze3 (zga h (zlh (zhD h hx) hu.1 hu.2))
   ·exact h
  ·exact h
 ·exact h

theorem zh4 {b:BR} (h:zz b=true) (port:Int) (up:Bool):zz (linkB b port up)=true:=by
 unfold linkB
 split
 ·split
  ·next x hx=>exact ze3 (zga h (zlk up (zhD h hx)))
  ·exact h
 ·exact h

theorem zkT {b:BR} (h:zz b=true):zz (tickB b)=true:=by
 unfold tickB;rw [if_pos h];obtain ⟨h1,h2,h3,h4,h5,h6,h7,h8,h9,h10,h11⟩:=zad h;exact ze3 (zdn ⟨h1,h2,h3,h4,zkY h5,h6,zfz h7,h8,h9,h10,h11⟩)

theorem zf6 (R C H B P:Int) (w:World) :
  Calls Tryz.prog 130 #[.agg #[.int .i64 R,.int .i64 C,.int .i64 H,.int .i64 B,.int .i64 P]] w fun e w'=>e=.returned (.agg #[.int .i64 R,.int .i64 C,.int .i64 H,.int .i64 B,.int .i64 P])∧Below w.heap.size w w':=by
 go_enter Tryz.func130,Tryz.ntmps130;go_wp2;exact bodyPost_ret (v:=.agg #[.int .i64 R,.int .i64 C,.int .i64 H,.int .i64 B,.int .i64 P]) (by simp [results,Tryz.results130,go_sem, *]) rfl ⟨rfl,zX _ _ _⟩

theorem zgM (R C H B P:Int) (w:World) :
  Calls Tryz.prog 130 #[.agg #[.int .i64 R,.int .i64 C,.int .i64 H,.int .i64 B,.int .i64 P]] w fun e w'=>e=.returned (.agg #[.int .i64 R,.int .i64 C,.int .i64 H,.int .i64 B,.int .i64 P]) ∧
   w'=(w.alloc (.cells #[.int .i64 R,.int .i64 C,.int .i64 H,.int .i64 B,.int .i64 P] 72)).alloc (.cells #[.int .i64 R,.int .i64 C,.int .i64 H,.int .i64 B,.int .i64 P] 100):=by
 go_enter Tryz.func130,Tryz.ntmps130;go_wp2;exact bodyPost_ret (v:=.agg #[.int .i64 R,.int .i64 C,.int .i64 H,.int .i64 B,.int .i64 P]) (by simp [results,Tryz.results130,go_sem, *]) rfl ⟨rfl,rfl⟩

theorem zj7 (R C H B P:Int) (w:World) :
  Calls Tryz.prog 131 #[.agg #[.int .i64 R,.int .i64 C,.int .i64 H,.int .i64 B,.int .i64 P]] w fun e w'=>e=.returned (.agg #[.int .i64 R,.int .i64 C,.int .i64 H,.int .i64 B,.int .i64 P])∧Below w.heap.size w w':=by
 go_enter Tryz.func131,Tryz.ntmps131;go_wp2;exact bodyPost_ret (v:=.agg #[.int .i64 R,.int .i64 C,.int .i64 H,.int .i64 B,.int .i64 P]) (by simp [results,Tryz.results131,go_sem, *]) rfl ⟨rfl,zX _ _ _⟩

theorem zkx (R C H B P:Int) (w:World):(Instr.index 100 (.agg #[.int .i64 R,.int .i64 C,.int .i64 H,.int .i64 B,.int .i64 P]) (.int .i64 0)).run Tryz.prog w=.ok (.int .i64 R) w:=by kernel_rfl
theorem zky (R C H B P:Int) (w:World):(Instr.index 100 (.agg #[.int .i64 R,.int .i64 C,.int .i64 H,.int .i64 B,.int .i64 P]) (.int .i64 1)).run Tryz.prog w=.ok (.int .i64 C) w:=by kernel_rfl
theorem zkz (R C H B P:Int) (w:World):(Instr.index 100 (.agg #[.int .i64 R,.int .i64 C,.int .i64 H,.int .i64 B,.int .i64 P]) (.int .i64 2)).run Tryz.prog w=.ok (.int .i64 H) w:=by kernel_rfl
theorem zkA (R C H B P:Int) (w:World):(Instr.index 100 (.agg #[.int .i64 R,.int .i64 C,.int .i64 H,.int .i64 B,.int .i64 P]) (.int .i64 3)).run Tryz.prog w=.ok (.int .i64 B) w:=by kernel_rfl
theorem zkB (R C H B P:Int) (w:World):(Instr.index 100 (.agg #[.int .i64 R,.int .i64 C,.int .i64 H,.int .i64 B,.int .i64 P]) (.int .i64 4)).run Tryz.prog w=.ok (.int .i64 P) w:=by kernel_rfl

abbrev zlO:Array Value:=#[.int .i64 1,.int .i64 0,.int .i64 0,.int .i64 1,.int .i64 0]
abbrev mostC:Array Value:=#[.int .i64 99,.int .i64 100000,.int .i64 10,.int .i64 99,.int .i64 7]
abbrev endsC:Array Value:=#[.int .i64 1,.int .i64 0,.int .i64 0,.int .i64 1,.int .i64 0,.int .i64 99,.int .i64 100000,.int .i64 10,.int .i64 99,.int .i64 7]

def cl (n lo hi:Int):Int:=min (max n lo) hi

def nearC (R C H B P:Int) (k:Nat):Array Value :=
 #[.int .i64 (if 0 < k then cl R 1 99 else R),.int .i64 (if 1 < k then cl C 0 100000 else C),.int .i64 (if 2 < k then cl H 0 10 else H),.int .i64 (if 3 < k then cl B 1 99 else B),.int .i64 (if 4 < k then cl P 0 7 else P)]

theorem zje {w:World} {C:Nat} {t:TypeId} {c0 c1 c2 c3 c4 c5 c6 c7 c8 c9:Value} (h:w.heap[C]? = some (.cells #[c0,c1,c2,c3,c4,c5,c6,c7,c8,c9] t)) :
  w.cell? ⟨C,0,none⟩=some c0∧w.cell? ⟨C,1,none⟩=some c1∧w.cell? ⟨C,2,none⟩=some c2∧w.cell? ⟨C,3,none⟩=some c3∧w.cell? ⟨C,4,none⟩=some c4∧w.cell? ⟨C,5,none⟩=some c5∧w.cell? ⟨C,6,none⟩=some c6∧w.cell? ⟨C,7,none⟩=some c7∧w.cell? ⟨C,8,none⟩=some c8∧w.cell? ⟨C,9,none⟩=some c9:=by
 refine ⟨?_, ?_, ?_, ?_, ?_, ?_, ?_, ?_, ?_, ?_⟩ <;> simp [World.cell?,h]

theorem zhy (R C H B P:Int) (w:World) :
  Calls Tryz.prog 96 #[.agg #[.int .i64 R,.int .i64 C,.int .i64 H,.int .i64 B,.int .i64 P]] w fun e w'=>e=.returned (.agg #[.int .i64 (cl R 1 99),.int .i64 (cl C 0 100000),.int .i64 (cl H 0 10),.int .i64 (cl B 1 99),.int .i64 (cl P 0 7)])∧Below w.heap.size w w':=by
 have q3:=zbb w (.cells #[.int .i64 R,.int .i64 C,.int .i64 H,.int .i64 B,.int .i64 P] 72) (.cells #[.int .i64 0,.int .i64 0,.int .i64 0,.int .i64 0,.int .i64 0] 72) (.cells endsC 170);obtain ⟨k0,k1,k2⟩:=zbS (Below.refl _ (((w.alloc (.cells #[.int .i64 R,.int .i64 C,.int .i64 H,.int .i64 B,.int .i64 P] 72)).alloc (.cells #[.int .i64 0,.int .i64 0,.int .i64 0,.int .i64 0,.int .i64 0] 72)).alloc (.cells endsC 170)));have hn:(((w.alloc (.cells #[.int .i64 R,.int .i64 C,.int .i64 H,.int .i64 B,.int .i64 P] 72)).alloc (.cells #[.int .i64 0,.int .i64 0,.int .i64 0,.int .i64 0,.int .i64 0] 72)).alloc (.cells endsC 170)).heap.size=w.heap.size+3:=by simp
 have HQ:=hide q3;have HK0:=hide k0;have HK1:=hide k1;have HN:=hide hn;clear q3 k0 k1 hn;go_enter Tryz.func96,Tryz.ntmps96;go_upto_region 2 with fail
 generalize (((w.alloc (.cells #[.int .i64 R,.int .i64 C,.int .i64 H,.int .i64 B,.int .i64 P] 72)).alloc (.cells #[.int .i64 0,.int .i64 0,.int .i64 0,.int .i64 0,.int .i64 0] 72)).alloc (.cells endsC 170))=w3 at *;obtain ⟨x0,x1,x2,x3,x4,x5,x6,x7,x8,x9⟩:=zje k2;have K2:=hide k2;clear k2
 go_cut [4,5] from 9 to 38 (fun s t wc=>∃p4 p5:Nat,s=.pointer (some ⟨p4,0,none⟩)∧t=.pointer (some ⟨p5,0,none⟩)∧wc.heap[p4]? = some (.cells zlO 100)∧wc.heap[p5]? = some (.cells mostC 100)∧¬p4=p5∧w3.heap.size≤p4∧w3.heap.size≤p5∧Below w3.heap.size w3 wc)
 case first =>
  go_region_held3 (fun W=>W.cell? ⟨w.heap.size+1+1,0,none⟩=some (.int .i64 1)∧W.cell? ⟨w.heap.size+1+1,1,none⟩=some (.int .i64 0)∧W.cell? ⟨w.heap.size+1+1,2,none⟩=some (.int .i64 0)∧W.cell? ⟨w.heap.size+1+1,3,none⟩=some (.int .i64 1)∧W.cell? ⟨w.heap.size+1+1,4,none⟩=some (.int .i64 0)∧W.cell? ⟨w.heap.size+1+1,5,none⟩=some (.int .i64 99)∧W.cell? ⟨w.heap.size+1+1,6,none⟩=some (.int .i64 100000)∧W.cell? ⟨w.heap.size+1+1,7,none⟩=some (.int .i64 10)∧W.cell? ⟨w.heap.size+1+1,8,none⟩=some (.int .i64 99)∧W.cell? ⟨w.heap.size+1+1,9,none⟩=some (.int .i64 7))
   (first | assumption | exact zje (za K2.out (by repeat (first | exact Below.refl _ _ | refine zr ?_ | refine zb4 ?_ _))) | go_keep) (first
   | (go_at_call 130; refine (zgM _ _ _ _ _ _).mono ?_; rintro e wx ⟨rfl,rfl⟩))
  all_goals
   (go_wp2_with fail)
   go_meet
   refine ⟨_,_,rfl,rfl,by repeat (first | (refine zhU ?_; simp; done) | refine za ?_ (zg _ _) | refine zbf ?_),by repeat (first | (refine zhU ?_; simp; done) | refine za ?_ (zg _ _) | refine zbf ?_),by omega,by omega,by omega,by repeat (first | exact Below.refl _ _ | refine zr ?_ | refine zb4 ?_ _)⟩
 case rest =>
  obtain ⟨p4,p5,rfl,rfl,h4,h5,hne,hp4,hp5,hbc⟩:=hcut;have hn:=HN.out;have hsz:=hbc.size;obtain ⟨⟨v0,v1,v2,v3,v4⟩,-⟩:=zx (za HK0.out hbc);clear x0 x1 x2 x3 x4 x5 x6 x7 x8 x9;(go_wp2_with fail);refine (zf6 R C H B P _).mono ?_;rintro e w6 ⟨rfl,hb6⟩;have hs6:=hb6.size;have q6:=zc hbc hb6;have k4:=za (za h4 hb6) (zg w6 (.cells #[.int .i64 R,.int .i64 C,.int .i64 H,.int .i64 B,.int .i64 P] 100));have k5:=za (za h5 hb6) (zg w6 (.cells #[.int .i64 R,.int .i64 C,.int .i64 H,.int .i64 B,.int .i64 P] 100));have k6:=zt w6 (.cells #[.int .i64 R,.int .i64 C,.int .i64 H,.int .i64 B,.int .i64 P] 100);have k1:=za (za HK1.out q6) (zg w6 (.cells #[.int .i64 R,.int .i64 C,.int .i64 H,.int .i64 B,.int .i64 P] 100));have hq:=HQ.out;have lt4:p4 < w6.heap.size:=(Array.getElem?_eq_some_iff.1 (za h4 hb6)).1;have lt5:p5 < w6.heap.size:=(Array.getElem?_eq_some_iff.1 (za h5 hb6)).1;clear v0 v1 v2 v3 v4 hb6;(go_wp2_with fail)
  go_loopw [21] (fun i wr=>∃k:Nat,k≤5∧i=.int .i64 k∧wr.heap[w6.heap.size]? = some (.cells (nearC R C H B P k) 100)∧(w6.alloc (.cells #[.int .i64 R,.int .i64 C,.int .i64 H,.int .i64 B,.int .i64 P] 100)).grownBy wr (some w6.heap.size)) (fun i _=>5 - (intOf i).toNat)
  case atStart=>exact ⟨0,Nat.zero_le _,rfl,k6,World.grownBy.refl _ _⟩
  case round =>
   obtain ⟨k,hk,hi,hc6,hg⟩:=hrel;have c4:=ze k4 hg (by intro j e; cases e; omega);have c5:=ze k5 hg (by intro j e; cases e; omega);have c1:=ze k1 hg (by intro j e; cases e; omega);have HG:=hide hg;obtain ⟨⟨y0,y1,y2,y3,y4⟩,-⟩:=zx c4;obtain ⟨⟨z0,z1,z2,z3,z4⟩,-⟩:=zx c5;have H6:=hide hc6;have H1:=hide c1;clear c4 c5 k4 k5 k6 k1 h4 h5 hg c1 hc6;rcases (show k=0∨k=1∨k=2∨k=3∨k=4∨k=5 by omega) with rfl | rfl | rfl | rfl | rfl | rfl
   ·have hi:_=Value.int .i64 0:=hi;subst hi;have h6:wr.heap[w6.heap.size]? = some (.cells #[.int .i64 R,.int .i64 C,.int .i64 H,.int .i64 B,.int .i64 P] 100):=H6.out;obtain ⟨⟨u0,u1,u2,u3,u4⟩,f0,f1,f2,f3,f4⟩:=zx h6;clear h6;have ix:=zkx R C H B P wr;(go_wp2_with fail)
    go_region
    go_wp2
    go_roundw
    case rel =>
     refine ⟨0+1,by omega,by go_num, ?_,zM (zM HG.out (zm _ _)) (zdo (zr (Below.refl _ _)))⟩
     have:=zu (j:=0) H6.out (.int .i64 (cl R 1 99))
     exact zbf this
    case measure=>simp [intOf]
   ·have hi:_=Value.int .i64 1:=hi;subst hi;have h6:wr.heap[w6.heap.size]? = some (.cells #[.int .i64 (cl R 1 99),.int .i64 C,.int .i64 H,.int .i64 B,.int .i64 P] 100):=H6.out;obtain ⟨⟨u0,u1,u2,u3,u4⟩,f0,f1,f2,f3,f4⟩:=zx h6;clear h6;have ix:=zky R C H B P wr;(go_wp2_with fail)
    go_region
    go_wp2
    go_roundw
    case rel =>
     refine ⟨1+1,by omega,by go_num, ?_,zM (zM HG.out (zm _ _)) (zdo (zr (Below.refl _ _)))⟩
     have:=zu (j:=1) H6.out (.int .i64 (cl C 0 100000))
     exact zbf this
    case measure=>simp [intOf]
   ·have hi:_=Value.int .i64 2:=hi;subst hi;have h6:wr.heap[w6.heap.size]? = some (.cells #[.int .i64 (cl R 1 99),.int .i64 (cl C 0 100000),.int .i64 H,.int .i64 B,.int .i64 P] 100):=H6.out;obtain ⟨⟨u0,u1,u2,u3,u4⟩,f0,f1,f2,f3,f4⟩:=zx h6;clear h6;have ix:=zkz R C H B P wr;(go_wp2_with fail)
    go_region
    go_wp2
    go_roundw
    case rel =>
     refine ⟨2+1,by omega,by go_num, ?_,zM (zM HG.out (zm _ _)) (zdo (zr (Below.refl _ _)))⟩
     have:=zu (j:=2) H6.out (.int .i64 (cl H 0 10))
     exact zbf this
    case measure=>simp [intOf]
   ·have hi:_=Value.int .i64 3:=hi;subst hi;have h6:wr.heap[w6.heap.size]? = some (.cells #[.int .i64 (cl R 1 99),.int .i64 (cl C 0 100000),.int .i64 (cl H 0 10),.int .i64 B,.int .i64 P] 100):=H6.out;obtain ⟨⟨u0,u1,u2,u3,u4⟩,f0,f1,f2,f3,f4⟩:=zx h6;clear h6;have ix:=zkA R C H B P wr;(go_wp2_with fail)
    go_region
    go_wp2
    go_roundw
    case rel =>
     refine ⟨3+1,by omega,by go_num, ?_,zM (zM HG.out (zm _ _)) (zdo (zr (Below.refl _ _)))⟩
     have:=zu (j:=3) H6.out (.int .i64 (cl B 1 99))
     exact zbf this
    case measure=>simp [intOf]
   ·have hi:_=Value.int .i64 4:=hi;subst hi;have h6:wr.heap[w6.heap.size]? = some (.cells #[.int .i64 (cl R 1 99),.int .i64 (cl C 0 100000),.int .i64 (cl H 0 10),.int .i64 (cl B 1 99),.int .i64 P] 100):=H6.out;obtain ⟨⟨u0,u1,u2,u3,u4⟩,f0,f1,f2,f3,f4⟩:=zx h6;clear h6;have ix:=zkB R C H B P wr;(go_wp2_with fail)
    go_region
    go_wp2
    go_roundw
    case rel =>
     refine ⟨4+1,by omega,by go_num, ?_,zM (zM HG.out (zm _ _)) (zdo (zr (Below.refl _ _)))⟩
     have:=zu (j:=4) H6.out (.int .i64 (cl P 0 7))
     exact zbf this
    case measure=>simp [intOf]
   ·have hi:_=Value.int .i64 5:=hi;subst hi;have h6:wr.heap[w6.heap.size]? = some (.cells #[.int .i64 (cl R 1 99),.int .i64 (cl C 0 100000),.int .i64 (cl H 0 10),.int .i64 (cl B 1 99),.int .i64 (cl P 0 7)] 100):=H6.out;obtain ⟨⟨u0,u1,u2,u3,u4⟩,f0,f1,f2,f3,f4⟩:=zx h6;clear h6;(go_wp2_with fail);refine (zj7 (cl R 1 99) (cl C 0 100000) (cl H 0 10) (cl B 1 99) (cl P 0 7) _).mono ?_;rintro e w9 ⟨rfl,hb9⟩;obtain ⟨⟨t0,t1,t2,t3,t4⟩,g0,g1,g2,g3,g4⟩:=zx (za H1.out hb9);have b9:=zc hq (zc q6 (zc (zld (zg w6 _) HG.out (Nat.le_refl _)) hb9));have HB:=hide b9;clear u0 u1 u2 u3 u4 f0 f1 f2 f3 f4 hb9 b9;go_wp2;exact bodyPost_ret (v:=.agg #[.int .i64 (cl R 1 99),.int .i64 (cl C 0 100000),.int .i64 (cl H 0 10),.int .i64 (cl B 1 99),.int .i64 (cl P 0 7)]) (by simp [results,Tryz.results96,go_sem, *]) rfl ⟨rfl,zR HB.out (by omega) _ _ _ _ _⟩

theorem zex (n lo hi:Int) (h:lo≤hi):(n == cl n lo hi)=(decide (lo≤n) && decide (n≤hi)):=by
 unfold cl;rw [Bool.eq_iff_iff]
 simp
 omega

theorem zjM (R C H B P:Int):((R == cl R 1 99) && ((C == cl C 0 100000) && ((H == cl H 0 10) && ((B == cl B 1 99) && (P == cl P 0 7)))))=okVc R C H B P:=by
 rw [zjL,zex _ _ _ (by omega),zex _ _ _ (by omega),zex _ _ _ (by omega),zex _ _ _ (by omega),zex _ _ _ (by omega)]

theorem zaJ (R C H B P:Int) (w:World) :
  Calls Tryz.prog 66 #[.agg #[.int .i64 R,.int .i64 C,.int .i64 H,.int .i64 B,.int .i64 P]] w fun e w'=>e=.returned (.bool (okVc R C H B P))∧Below w.heap.size w w':=by
 have k0:=zt w (.cells #[.int .i64 R,.int .i64 C,.int .i64 H,.int .i64 B,.int .i64 P] 72);have q0:=zg w (.cells #[.int .i64 R,.int .i64 C,.int .i64 H,.int .i64 B,.int .i64 P] 72);have he:∀W,(binOp .eql 72 (.agg #[.int .i64 R,.int .i64 C,.int .i64 H,.int .i64 B,.int .i64 P]) (.agg #[.int .i64 (cl R 1 99),.int .i64 (cl C 0 100000),.int .i64 (cl H 0 10),.int .i64 (cl B 1 99),.int .i64 (cl P 0 7)])).run Tryz.prog W=.ok (.bool (okVc R C H B P)) W:=fun W=>by rw [zhR,zjM]
 have hgd:Tryz.prog.eqGuardType Tryz.prog.depth 72=false:=by kernel_rfl
 generalize okVc R C H B P=Q at *;go_enter Tryz.func66,Tryz.ntmps66;go_wp2_with fail
 generalize (w.alloc (.cells #[.int .i64 R,.int .i64 C,.int .i64 H,.int .i64 B,.int .i64 P] 72))=wb at *;obtain ⟨⟨x0,x1,x2,x3,x4⟩,-⟩:=zx k0;have K0:=hide k0;clear k0
 go_region_held3 (fun W=>W.cell? ⟨w.heap.size,0,none⟩=some (.int .i64 R)∧W.cell? ⟨w.heap.size,1,none⟩=some (.int .i64 C)∧W.cell? ⟨w.heap.size,2,none⟩=some (.int .i64 H)∧W.cell? ⟨w.heap.size,3,none⟩=some (.int .i64 B)∧W.cell? ⟨w.heap.size,4,none⟩=some (.int .i64 P)) (first | assumption | exact (zx k1).1 | go_keep) (first
  | (go_at_call 96; refine (zhy R C H B P _).mono ?_; rintro e w1 ⟨rfl,hb1⟩; have k1:=za K0.out (undrew hb1)))
 go_wp2;go_ret;exact ⟨rfl,zc q0 (undrew hb1)⟩

theorem zeJ (R C H B P k:Int) (w:World) :
  Calls Tryz.prog 169 #[.agg #[.int .i64 R,.int .i64 C,.int .i64 H,.int .i64 B,.int .i64 P],.int .i64 k] w fun e w'=>e=.returned (.tuple #[if zbh R C H B P k=true then .agg #[.int .i64 R,.int .i64 (C+k),.int .i64 (H+1),.int .i64 B,.int .i64 P] else .agg #[.int .i64 R,.int .i64 C,.int .i64 H,.int .i64 B,.int .i64 P],.bool (zbh R C H B P k)])∧Below w.heap.size w w':=by
 cases t1:okVc R C H B P
 ·have e:zbh R C H B P k=false:=by unfold zbh; rw [t1]; rfl
  rw [e,if_neg (by simp)];have T1:=hide t1;clear e t1;go_enter Tryz.func169,Tryz.ntmps169;(go_wp2_with fail);refine (zaJ R C H B P _).mono ?_;rintro e w1 ⟨rfl,hb1⟩;rw [T1.out];have q3:=zc (zbb w _ _ _) hb1;obtain ⟨k0,k1,k2⟩:=zbS hb1;obtain ⟨⟨x0,x1,x2,x3,x4⟩,f0,f1,f2,f3,f4⟩:=zx k0;obtain ⟨⟨y0,y1,y2,y3,y4⟩,g0,g1,g2,g3,g4⟩:=zx k1;have HB:=hide q3;have K1:=hide k1;have K2:=hide k2;have K0:=hide k0;clear hb1 k0 k1 k2 q3;go_wp2;exact bodyPost_ret (v:=.tuple #[.agg #[.int .i64 R,.int .i64 C,.int .i64 H,.int .i64 B,.int .i64 P],.bool false]) (by simp [results,Tryz.results169,go_sem, *]) rfl ⟨rfl,zR HB.out (by omega) _ _ _ _ _⟩
 cases t2:(decide (1≤k) && decide (k≤1000))
 ·have e:zbh R C H B P k=false:=by unfold zbh; rw [t1,t2]; rfl
  rw [e,if_neg (by simp)];have T1:=hide t1;have T2:=hide t2;clear e t1 t2;go_enter Tryz.func169,Tryz.ntmps169;(go_wp2_with fail);refine (zaJ R C H B P _).mono ?_;rintro e w1 ⟨rfl,hb1⟩;rw [T1.out];have q3:=zc (zbb w _ _ _) hb1;obtain ⟨k0,k1,k2⟩:=zbS hb1;obtain ⟨⟨x0,x1,x2,x3,x4⟩,f0,f1,f2,f3,f4⟩:=zx k0;obtain ⟨⟨y0,y1,y2,y3,y4⟩,g0,g1,g2,g3,g4⟩:=zx k1;have HB:=hide q3;have K1:=hide k1;have K2:=hide k2;have K0:=hide k0;clear hb1 k0 k1 k2 q3;(go_wp2_with fail);refine (zF k 1 1000 _).mono ?_;rintro e w2 ⟨rfl,rfl⟩;rw [T2.out];go_wp2;exact bodyPost_ret (v:=.tuple #[.agg #[.int .i64 R,.int .i64 C,.int .i64 H,.int .i64 B,.int .i64 P],.bool false]) (by simp [results,Tryz.results169,go_sem, *]) rfl ⟨rfl,zR HB.out (by omega) _ _ _ _ _⟩
 obtain ⟨-,o2,o3,-,-⟩:=zfy t1;have hk:1≤k∧k≤1000:=by simpa using t2
 have es:zbh R C H B P k=okVc R (C+k) (H+1) B P:=by unfold zbh; rw [t1,t2]; rfl
 rw [es];clear es;cases t3:okVc R (C+k) (H+1) B P
 ·rw [if_neg (by simp)];have T1:=hide t1;have T2:=hide t2;have T3:=hide t3;clear t1 t2 t3;go_enter Tryz.func169,Tryz.ntmps169;(go_wp2_with fail);refine (zaJ R C H B P _).mono ?_;rintro e w1 ⟨rfl,hb1⟩;rw [T1.out];have q3:=zc (zbb w _ _ _) hb1;obtain ⟨k0,k1,k2⟩:=zbS hb1;obtain ⟨⟨x0,x1,x2,x3,x4⟩,f0,f1,f2,f3,f4⟩:=zx k0;obtain ⟨⟨y0,y1,y2,y3,y4⟩,g0,g1,g2,g3,g4⟩:=zx k1;have HB:=hide q3;have K1:=hide k1;have K2:=hide k2;have K0:=hide k0;clear hb1 k0 k1 k2 q3;(go_wp2_with fail);refine (zF k 1 1000 _).mono ?_;rintro e w2 ⟨rfl,rfl⟩;rw [T2.out];obtain ⟨⟨z0,z1,z2,z3,z4⟩,-⟩:=zx K2.out;(go_wp2_with fail);refine (zaJ R (C+k) (H+1) B P _).mono ?_;rintro e w3 ⟨rfl,hb3⟩;rw [T3.out];clear x0 x1 x2 x3 x4 f0 f1 f2 f3 f4 y0 y1 y2 y3 y4 g0 g1 g2 g3 g4 z0 z1 z2 z3 z4;obtain ⟨⟨x0,x1,x2,x3,x4⟩,f0,f1,f2,f3,f4⟩:=zx (za K0.out hb3);obtain ⟨⟨y0,y1,y2,y3,y4⟩,g0,g1,g2,g3,g4⟩:=zx (za K1.out hb3);have HB:=hide (zc HB.out hb3);clear hb3;go_wp2;exact bodyPost_ret (v:=.tuple #[.agg #[.int .i64 R,.int .i64 C,.int .i64 H,.int .i64 B,.int .i64 P],.bool false]) (by simp [results,Tryz.results169,go_sem, *]) rfl ⟨rfl,zR HB.out (by omega) _ _ _ _ _⟩
 ·rw [if_pos rfl];have T1:=hide t1;have T2:=hide t2;have T3:=hide t3;clear t1 t2 t3;go_enter Tryz.func169,Tryz.ntmps169;(go_wp2_with fail);refine (zaJ R C H B P _).mono ?_;rintro e w1 ⟨rfl,hb1⟩;rw [T1.out];have q3:=zc (zbb w _ _ _) hb1;obtain ⟨k0,k1,k2⟩:=zbS hb1;obtain ⟨⟨x0,x1,x2,x3,x4⟩,f0,f1,f2,f3,f4⟩:=zx k0;obtain ⟨⟨y0,y1,y2,y3,y4⟩,g0,g1,g2,g3,g4⟩:=zx k1;have HB:=hide q3;have K1:=hide k1;have K2:=hide k2;have K0:=hide k0;clear hb1 k0 k1 k2 q3;(go_wp2_with fail);refine (zF k 1 1000 _).mono ?_;rintro e w2 ⟨rfl,rfl⟩;rw [T2.out];obtain ⟨⟨z0,z1,z2,z3,z4⟩,-⟩:=zx K2.out;(go_wp2_with fail);refine (zaJ R (C+k) (H+1) B P _).mono ?_;rintro e w3 ⟨rfl,hb3⟩;rw [T3.out];clear x0 x1 x2 x3 x4 f0 f1 f2 f3 f4 y0 y1 y2 y3 y4 g0 g1 g2 g3 g4 z0 z1 z2 z3 z4;obtain ⟨⟨x0,x1,x2,x3,x4⟩,f0,f1,f2,f3,f4⟩:=zx (za K2.out hb3);obtain ⟨⟨y0,y1,y2,y3,y4⟩,g0,g1,g2,g3,g4⟩:=zx (za K1.out hb3);have HB:=hide (zc HB.out hb3);clear hb3;go_wp2;exact bodyPost_ret (v:=.tuple #[.agg #[.int .i64 R,.int .i64 (C+k),.int .i64 (H+1),.int .i64 B,.int .i64 P],.bool true]) (by simp [results,Tryz.results169,go_sem, *]) rfl ⟨rfl,zR HB.out (by omega) _ _ _ _ _⟩

theorem zgB (x:PT) (w:World) :
  Calls Tryz.prog 154 #[.agg #[.bool x.up,.int .i64 x.k,.bool x.has,.int .i64 x.v.r,.int .i64 x.v.c,.int .i64 x.v.h,.int .i64 x.v.b,.int .i64 x.v.p]] w fun e w'=>e=.returned (.bool (ptOk x))∧Below w.heap.size w w':=by
 have he:∀W,(binOp .eql 72 (.agg #[.int .i64 x.v.r,.int .i64 x.v.c,.int .i64 x.v.h,.int .i64 x.v.b,.int .i64 x.v.p]) (.agg #[.int .i64 0,.int .i64 0,.int .i64 0,.int .i64 0,.int .i64 0])).run Tryz.prog W=.ok (.bool (zee x.v)) W:=fun W=>by rw [zhR]; rfl
 have hgd:Tryz.prog.eqGuardType Tryz.prog.depth 72=false:=by kernel_rfl
 obtain ⟨up,k,has,⟨r,c,h,b,p⟩⟩:=x
 simp only at he ⊢
 generalize hw1:w.alloc (.cells #[.bool up,.int .i64 k,.bool has,.int .i64 r,.int .i64 c,.int .i64 h,.int .i64 b,.int .i64 p] 79)=w1;have q0:=zb hw1;obtain ⟨c0,c1,c2,c3,c4,c5,c6,c7⟩:=zcJ (by rw [← hw1]; exact zt w _:w1.heap[w.heap.size]? = _);cases t1:(decide (1≤k) && decide (k≤1000))
 ·have T1:=hide t1;rw [show ptOk ⟨up,k,has,⟨r,c,h,b,p⟩⟩=false by unfold ptOk; rw [t1]; rfl];clear t1;go_enter Tryz.func154,Tryz.ntmps154;(go_wp2_with fail);refine (zF k 1 1000 _).mono ?_;rintro e w2 ⟨rfl,rfl⟩;rw [T1.out];go_wp2;go_ret;exact ⟨rfl,q0⟩
 cases has
 ·rw [show ptOk ⟨up,k,false,⟨r,c,h,b,p⟩⟩=zee ⟨r,c,h,b,p⟩ by unfold ptOk; rw [t1]; cases up <;> rfl];have T1:=hide t1;generalize zee ⟨r,c,h,b,p⟩=Q at *;clear t1;go_enter Tryz.func154,Tryz.ntmps154;(go_wp2_with fail);refine (zF k 1 1000 _).mono ?_;rintro e w2 ⟨rfl,rfl⟩;rw [T1.out];go_wp2;go_ret;exact ⟨rfl,q0⟩
 cases up
 ·rw [show ptOk ⟨false,k,true,⟨r,c,h,b,p⟩⟩=false by unfold ptOk; rw [t1]; rfl];have T1:=hide t1;clear t1;go_enter Tryz.func154,Tryz.ntmps154;(go_wp2_with fail);refine (zF k 1 1000 _).mono ?_;rintro e w2 ⟨rfl,rfl⟩;rw [T1.out];go_wp2;go_ret;exact ⟨rfl,q0⟩
 ·rw [show ptOk ⟨true,k,true,⟨r,c,h,b,p⟩⟩=okVc r c h b p by unfold ptOk; rw [t1]; rfl];have T1:=hide t1;clear t1;go_enter Tryz.func154,Tryz.ntmps154;(go_wp2_with fail);refine (zF k 1 1000 _).mono ?_;rintro e w2 ⟨rfl,rfl⟩;rw [T1.out];(go_wp2_with fail);refine (zaJ r c h b p _).mono ?_;rintro e w3 ⟨rfl,hb3⟩;have HB:=hide (zc q0 hb3);clear hb3;go_wp2;go_ret;exact ⟨rfl,HB.out⟩

def overB (x:PT):Bool:=x.up && (x.has && zdi x.v x.k)
def overV (x:PT):VD:=if (x.up && x.has)=true then (if zdi x.v x.k=true then stepV x.v x.k else x.v) else ⟨0,0,0,0,0⟩

theorem zia {x:PT} (h:overB x=true):overV x=stepV x.v x.k:=by
 unfold overB at h;simp only [Bool.and_eq_true] at h;unfold overV;rw [h.1,h.2.1,h.2.2]
 rfl

theorem zcu (id:Int) (x:PT):offers id x=(overB x && decide ((overV x).r < id)):=by
 cases h:overB x
 ·unfold offers overB at *;cases hu:x.up <;> cases hh:x.has <;> cases hs:zdi x.v x.k <;> rw [hu,hh,hs] at h <;> simp_all
 ·rw [zia h];unfold overB at h;simp only [Bool.and_eq_true] at h;unfold offers;rw [h.1,h.2.1,h.2.2]
  rfl

theorem zgQ (x:PT) (w:World) :
  Calls Tryz.prog 166 #[.agg #[.bool x.up,.int .i64 x.k,.bool x.has,.int .i64 x.v.r,.int .i64 x.v.c,.int .i64 x.v.h,.int .i64 x.v.b,.int .i64 x.v.p]] w fun e w'=>e=.returned (.tuple #[.agg #[.int .i64 (overV x).r,.int .i64 (overV x).c,.int .i64 (overV x).h,.int .i64 (overV x).b,.int .i64 (overV x).p],.bool (overB x)])∧Below w.heap.size w w':=by
 by_cases hno:(x.up && x.has)=false
 ·rw [show overV x=⟨0,0,0,0,0⟩ by unfold overV; rw [hno]; rfl,show overB x=false by unfold overB; cases hu:x.up <;> cases hh:x.has <;> simp_all]
  simp only
  cases hu:x.up
  ·clear hno;go_enter Tryz.func166,Tryz.ntmps166;go_wp2;exact bodyPost_ret (v:=.tuple #[.agg #[.int .i64 0,.int .i64 0,.int .i64 0,.int .i64 0,.int .i64 0],.bool false]) (by simp [results,Tryz.results166,go_sem, *]) rfl ⟨rfl,zX _ _ _⟩
  ·have hh:x.has=false:=by rw [hu] at hno; simpa using hno
   rw [hh];clear hno;go_enter Tryz.func166,Tryz.ntmps166;go_wp2;exact bodyPost_ret (v:=.tuple #[.agg #[.int .i64 0,.int .i64 0,.int .i64 0,.int .i64 0,.int .i64 0],.bool false]) (by simp [results,Tryz.results166,go_sem, *]) rfl ⟨rfl,zX _ _ _⟩
 generalize hw1:w.alloc (.cells #[.bool x.up,.int .i64 x.k,.bool x.has,.int .i64 x.v.r,.int .i64 x.v.c,.int .i64 x.v.h,.int .i64 x.v.b,.int .i64 x.v.p] 79)=w1;generalize hw2:w1.alloc (.cells #[.int .i64 0,.int .i64 0,.int .i64 0,.int .i64 0,.int .i64 0] 72)=w2;have q1:=zb hw1;have q2:=zb hw2;have k1:=zk hw1;have k2:=zk hw2;have hs1:w1.heap.size=w.heap.size+1:=by rw [← hw1]; simp
 rw [hs1] at k2;obtain ⟨c0,c1,c2,c3,c4,c5,c6,c7⟩:=zcJ (za k1 q2);have HQ:=hide (zc q1 q2);have K2:=hide k2;have hyes:(x.up && x.has)=true:=by simpa using hno
 have hu:x.up=true:=by simp only [Bool.and_eq_true] at hyes; exact hyes.1
 have hh:x.has=true:=by simp only [Bool.and_eq_true] at hyes; exact hyes.2
 rw [hu] at c0;rw [hh] at c2;generalize hq:overB x=q;generalize hu':overV x=u;have HST:Hid (zbh x.v.r x.v.c x.v.h x.v.b x.v.p x.k=q):=hide (by rw [← hq]; unfold overB zdi; rw [hu,hh]; rfl);have HUV:Hid ((if q=true then Value.agg #[.int .i64 x.v.r,.int .i64 (x.v.c+x.k),.int .i64 (x.v.h+1),.int .i64 x.v.b,.int .i64 x.v.p] else Value.agg #[.int .i64 x.v.r,.int .i64 x.v.c,.int .i64 x.v.h,.int .i64 x.v.b,.int .i64 x.v.p])=.agg #[.int .i64 u.r,.int .i64 u.c,.int .i64 u.h,.int .i64 u.b,.int .i64 u.p]):=hide (by
  rw [← hu'];unfold overV;rw [if_pos hyes];unfold zdi;rw [HST.out];cases q <;> rfl)
 clear hq hu' hu hh hyes hno q1 q2 k1 k2;go_enter Tryz.func166,Tryz.ntmps166;go_wp2_with fail
 refine (zeJ x.v.r x.v.c x.v.h x.v.b x.v.p x.k _).mono ?_;rintro e w3 ⟨rfl,hb3⟩;rw [HST.out,HUV.out];obtain ⟨⟨r0,r1,r2,r3,r4⟩,z0,z1,z2,z3,z4⟩:=zx (za K2.out hb3);have HS:=hide (zR (zc HQ.out hb3) (g:=w.heap.size+1) (by omega) (.int .i64 u.r) (.int .i64 u.c) (.int .i64 u.h) (.int .i64 u.b) (.int .i64 u.p));clear hb3 c0 c1 c2 c3 c4 c5 c6 c7;go_wp2;exact bodyPost_ret (v:=.tuple #[.agg #[.int .i64 u.r,.int .i64 u.c,.int .i64 u.h,.int .i64 u.b,.int .i64 u.p],.bool q]) (by simp [results,Tryz.results166,go_sem, *]) rfl ⟨rfl,HS.out⟩

end Go.Proofs.YtkcoehmpnkdinaaGreat
