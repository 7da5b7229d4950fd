/-
  Packed: VlanBits VtabOpen PtOpen BrOpen NetOpen VtabAt Made VecEql PtOkS FdbSpec PtApp PtHelp.
-/
import Derived.Test.YtpaneiaflfegoaaGreatPTK01
import Derived.Test.YtpaneiaflfegoaaGreatPTK02
import Derived.WalkKit
import Derived.ProofKit
import Derived.OpenShut
import Derived.ShutString
import Derived.ChangeOld
import Derived.Below
import Derived.Lib.SmallJoins
import Derived.Deep.RegionHeld3
import Derived.Deep.CutRange
namespace Go.Proofs.YtpaneiaflfegoaaGreat
set_option maxRecDepth 100000
set_option maxHeartbeats 16000000
open Go.RowKit

def I64 (x:Int):Prop := -9223372036854775808≤x∧x≤9223372036854775807

def VR.Rng (r:VR):Prop:=I64 r.i∧I64 r.m∧I64 r.b

theorem bv_of (x:Int):(BitVec.ofInt 64 x).toNat=(x % 18446744073709551616).toNat:=by
 rw [BitVec.toNat_ofInt]
 rfl

theorem zkD (x:BitVec 64):IntKind.i64.wrap (x.toNat:Int)=x.toInt:=by
 have:=x.isLt
 rw [IntKind.wrap_i64,BitVec.toInt_eq_toNat_cond]
 split <;> omega

theorem zc1 (a b:Int):bits .and .i64 a b=(BitVec.ofInt 64 a &&& BitVec.ofInt 64 b).toInt:=by
 rw [← zkD]
 rfl
theorem zha (a b:Int):bits .andNot .i64 a b=(BitVec.ofInt 64 a &&& ~~~(BitVec.ofInt 64 b)).toInt:=by
 rw [← zkD]
 rfl

theorem zfn {x:BitVec 64}:x.toInt=0↔x=0#64:=by
 rw [← BitVec.toInt_inj]
 simp

theorem zds (x:Int) (h:I64 x):(BitVec.ofInt 64 x).toInt=x:=by
 unfold I64 at h;rw [BitVec.toInt_ofInt];rw [Int.bmod_def];omega

theorem zeV (b m:Int) (hb:I64 b):(bits .andNot .i64 b m == 0)=(bits .and .i64 b m == b):=by
 rw [zc1,zha];have key:(BitVec.ofInt 64 b &&& ~~~(BitVec.ofInt 64 m))=0#64↔(BitVec.ofInt 64 b &&& BitVec.ofInt 64 m)=BitVec.ofInt 64 b:=by
  constructor
  ·intro h
   apply BitVec.eq_of_getLsbD_eq
   intro i hi
   have:=congrArg (fun z=>z.getLsbD i) h
   simp only [BitVec.getLsbD_and,BitVec.getLsbD_not,hi,decide_true,Bool.true_and,BitVec.getLsbD_zero] at this;simp only [BitVec.getLsbD_and];cases h1:(BitVec.ofInt 64 b).getLsbD i <;> cases h2:(BitVec.ofInt 64 m).getLsbD i <;> simp_all
  ·intro h
   apply BitVec.eq_of_getLsbD_eq
   intro i hi
   have:=congrArg (fun z=>z.getLsbD i) h
   simp only [BitVec.getLsbD_and] at this;simp only [BitVec.getLsbD_and,BitVec.getLsbD_not,hi,decide_true,Bool.true_and,BitVec.getLsbD_zero];cases h1:(BitVec.ofInt 64 b).getLsbD i <;> cases h2:(BitVec.ofInt 64 m).getLsbD i <;> simp_all
 have e2:((BitVec.ofInt 64 b &&& BitVec.ofInt 64 m).toInt=b)↔(BitVec.ofInt 64 b &&& BitVec.ofInt 64 m)=BitVec.ofInt 64 b:=by
  constructor
  ·intro h
   apply BitVec.toInt_inj.1
   rw [h,zds b hb]
  ·intro h;rw [h,zds b hb]
 have e1:=zfn (x:=BitVec.ofInt 64 b &&& ~~~(BitVec.ofInt 64 m));rw [Bool.eq_iff_iff];simp only [beq_iff_eq];rw [e1,key,e2]

theorem zlK (p:Nat) (hp:p≤6):(BitVec.ofInt 64 (allOf p)).toNat=2 ^ p - 1:=by
 rcases (show p=0∨p=1∨p=2∨p=3∨p=4∨p=5∨p=6 by omega) with rfl | rfl | rfl | rfl | rfl | rfl | rfl <;> rfl

theorem zke (p:Nat) (hp:p≤6):(2:Nat) ^ p≤64∧((2:Int) ^ p=((2 ^ p:Nat):Int))∧1≤(2:Nat) ^ p:=by
 rcases (show p=0∨p=1∨p=2∨p=3∨p=4∨p=5∨p=6 by omega) with rfl | rfl | rfl | rfl | rfl | rfl | rfl <;> exact ⟨by decide,rfl,by decide⟩

theorem zg6 (m:Int) (p:Nat) (hm:I64 m) (hp:p≤6):(bits .andNot .i64 m (allOf p) == 0)=in3 m 0 (allOf p):=by
 rw [zeV m _ hm,zc1];have hn:(BitVec.ofInt 64 m &&& BitVec.ofInt 64 (allOf p)).toNat=(BitVec.ofInt 64 m).toNat % 2 ^ p:=by
  rw [BitVec.toNat_and,zlK p hp,Nat.and_two_pow_sub_one_eq_mod]
 have e2:((BitVec.ofInt 64 m &&& BitVec.ofInt 64 (allOf p)).toInt=m)↔(BitVec.ofInt 64 m &&& BitVec.ofInt 64 (allOf p)).toNat=(BitVec.ofInt 64 m).toNat:=by
  constructor
  ·intro h
   have:(BitVec.ofInt 64 m &&& BitVec.ofInt 64 (allOf p))=BitVec.ofInt 64 m:=by
    apply BitVec.toInt_inj.1
    rw [h,zds m hm]
   rw [this]
  ·intro h;rw [BitVec.eq_of_toNat_eq h,zds m hm]
 rw [Bool.eq_iff_iff];simp only [beq_iff_eq];rw [e2,hn,bv_of m];obtain ⟨h64,hc,h1⟩:=zke p hp;unfold in3 allOf;rw [hc];unfold I64 at hm;generalize (2:Nat) ^ p=q at *;simp only [Bool.and_eq_true,decide_eq_true_eq]
 constructor
 ·intro h
  have:(m % 18446744073709551616).toNat % q < q:=Nat.mod_lt _ (by omega)
  omega
 ·intro h;rw [Nat.mod_eq_of_lt (by omega)]

theorem zjn (b m:Int) (p:Nat) (hb:I64 b) (hp:p≤6) (hm:in3 m 0 (allOf p)=true) (h:(bits .and .i64 b m == b)=true):in3 b 0 (allOf p)=true:=by
 obtain ⟨h64,hc,h1⟩:=zke p hp;unfold in3 allOf at hm ⊢;rw [hc] at hm ⊢;generalize (2:Nat) ^ p=q at *;simp only [Bool.and_eq_true,decide_eq_true_eq,beq_iff_eq] at *;have hmI:I64 m:=by unfold I64; omega
 rw [zc1] at h;have e:(BitVec.ofInt 64 b &&& BitVec.ofInt 64 m)=BitVec.ofInt 64 b:=by
  apply BitVec.toInt_inj.1
  rw [h,zds b hb]
 have e':=congrArg BitVec.toNat e;rw [BitVec.toNat_and,bv_of b,bv_of m] at e'
 have:(b % 18446744073709551616).toNat &&& (m % 18446744073709551616).toNat≤(m % 18446744073709551616).toNat:=Nat.and_le_right
 unfold I64 at hb;omega

theorem zky (r:VR) (p:Nat) (hr:r.Rng) (hp:p≤6):(in3 r.i 1 99 && (bits .andNot .i64 r.m (allOf p) == 0) && (bits .andNot .i64 r.b r.m == 0))=zbk (allOf p) r:=by
 rw [zg6 r.m p hr.2.1 hp,zeV r.b r.m hr.2.2];unfold zbk;cases h1:in3 r.i 1 99
 ·rfl
 ·cases h2:in3 r.m 0 (allOf p)
  ·rfl
  ·cases h3:(bits .and .i64 r.b r.m == r.b)
   ·simp
   ·rw [zjn r.b r.m p hr.2.2 hp h2 h3]
    rfl

theorem zlx (n k:Nat):n &&& 2 ^ k=(n.testBit k).toNat*2 ^ k:=by
 apply Nat.eq_of_testBit_eq
 intro j;rw [Nat.testBit_and,Nat.testBit_two_pow];by_cases h:k=j
 ·subst h;cases n.testBit k
  ·simp
  ·simp
 ·cases n.testBit k
  ·simp [h]
  ·simp [h]

theorem zkG (n:Int) (k:Nat) (hk:k≤9) (hn:I64 n):(bits .and .i64 n (2 ^ k) != 0)=(bits .and .i64 (n / 2 ^ k) 1 == 1):=by
 have h1:I64 (n / 2 ^ k):=by
  unfold I64 at *;rcases (show k=0∨k=1∨k=2∨k=3∨k=4∨k=5∨k=6∨k=7∨k=8∨k=9 by omega) with rfl | rfl | rfl | rfl | rfl | rfl | rfl | rfl | rfl | rfl <;> simp <;> omega
 rw [zc1,zc1,bne,Bool.eq_iff_iff];simp only [Bool.not_eq_true',beq_eq_false_iff_ne,ne_eq,beq_iff_eq];rw [zfn];have a1:(BitVec.ofInt 64 (n / 2 ^ k) &&& BitVec.ofInt 64 1).toNat=(((n / 2 ^ k) % 18446744073709551616).toNat) % 2:=by
  rw [BitVec.toNat_and,bv_of _,show (BitVec.ofInt 64 1).toNat=2 ^ 1 - 1 from rfl,Nat.and_two_pow_sub_one_eq_mod]
 have a2:(BitVec.ofInt 64 n &&& BitVec.ofInt 64 (2 ^ k)).toNat=((n % 18446744073709551616).toNat.testBit k).toNat*2 ^ k:=by
  rw [BitVec.toNat_and,bv_of _,← zlx]
  congr 1
  rcases (show k=0∨k=1∨k=2∨k=3∨k=4∨k=5∨k=6∨k=7∨k=8∨k=9 by omega) with rfl | rfl | rfl | rfl | rfl | rfl | rfl | rfl | rfl | rfl <;> rfl
 have a3:((BitVec.ofInt 64 (n / 2 ^ k) &&& BitVec.ofInt 64 1).toInt=1)↔(((n / 2 ^ k) % 18446744073709551616).toNat) % 2=1:=by
  rw [← a1,BitVec.toInt_eq_toNat_cond]
  have:=(BitVec.ofInt 64 (n / 2 ^ k) &&& BitVec.ofInt 64 1).isLt
  have h2:(BitVec.ofInt 64 (n / 2 ^ k) &&& BitVec.ofInt 64 1).toNat < 2:=by rw [a1]; omega
  rw [if_pos (by omega)];omega
 have a4:((BitVec.ofInt 64 n &&& BitVec.ofInt 64 (2 ^ k))=0#64)↔(n % 18446744073709551616).toNat.testBit k=false:=by
  rw [← BitVec.toNat_inj,a2]
  have:0 < 2 ^ k:=Nat.two_pow_pos k
  cases (n % 18446744073709551616).toNat.testBit k
  ·simp
  ·simp
 rw [a3,a4,Bool.not_eq_false,Nat.testBit_eq_decide_div_mod_eq,decide_eq_true_eq];unfold I64 at hn;rcases (show k=0∨k=1∨k=2∨k=3∨k=4∨k=5∨k=6∨k=7∨k=8∨k=9 by omega) with rfl | rfl | rfl | rfl | rfl | rfl | rfl | rfl | rfl | rfl <;> simp <;> omega

section
open Go.RowKit

section
open Go.ChangeShapes Go.WideShapes Go.ChangeAt
variable {H:Type} {enc:TypeId × Value→H} {P:Program} {w:World}

theorem wf_64 {n:Int} (h:(Lit.int .i64 n).wf=true):I64 n:=by
 unfold I64
 simp [Lit.wf,IntKind.min,IntKind.max,IntKind.bits,IntKind.signed] at h
 omega

theorem zkz {tp ti:TypeId} {g0 g1 g2:Field} (hs:P.underlying tp=some (.struct #[g0,g1,g2])) (hi:P.underlying ti=some (.int .i64))
  (e0:g0.type=ti∧g0.offset=0) (e1:g1.type=ti∧g1.offset=1) (e2:g2.type=ti∧g2.offset=2) (hC:P.cellsOf tp=3) (hti:P.cellsOf ti=1)
  {fuel:Nat} {cs:List Value} {x:DataW H × List MemPlace} (h:DataW.trod enc P w 0 (fun _=>true) true fuel tp cs=some x):∃y,cs=vrowF.cs y∧y.Rng:=by
 obtain ⟨xs,n,_,_,hlen,hxl,hq⟩:=DataW.trod_struct hs h;rw [hC] at hlen
 match xs,hxl,cs,hlen with
 | [y0,y1,y2],_,[v0,v1,v2],_ =>
  have k0:=hq 0 g0 rfl;have k1:=hq 1 g1 rfl;have k2:=hq 2 g2 rfl;rw [e0.1,e0.2,hti] at k0;rw [e1.1,e1.2,hti] at k1;rw [e2.1,e2.2,hti] at k2
  simp at k0 k1 k2
  obtain ⟨T,i0,-,r0⟩:=DataW.trod_int hi k0;obtain ⟨M,i1,-,r1⟩:=DataW.trod_int hi k1;obtain ⟨B,i2,-,r2⟩:=DataW.trod_int hi k2;simp only [List.cons.injEq,and_true] at i0 i1 i2;subst i0 i1 i2;exact ⟨⟨T,M,B⟩,rfl,wf_64 r0,wf_64 r1,wf_64 r2⟩

end

end

section
open Go.RowKit

def PT.Rng (x:PT):Prop:=I64 x.k∧I64 x.v.r∧I64 x.v.c∧I64 x.v.h∧I64 x.v.b∧I64 x.v.p

section
open Go.ChangeShapes Go.WideShapes Go.ChangeAt
variable {H:Type} {enc:TypeId × Value→H} {P:Program} {w:World}

theorem ziK {tp ti:TypeId} {g0 g1 g2 g3 g4:Field} (hs:P.underlying tp=some (.struct #[g0,g1,g2,g3,g4])) (hi:P.underlying ti=some (.int .i64))
  (e0:g0.type=ti∧g0.offset=0) (e1:g1.type=ti∧g1.offset=1) (e2:g2.type=ti∧g2.offset=2) (e3:g3.type=ti∧g3.offset=3) (e4:g4.type=ti∧g4.offset=4) (hC:P.cellsOf tp=5) (hti:P.cellsOf ti=1)
  {fuel:Nat} {cs:List Value} {x:DataW H × List MemPlace} (h:DataW.trod enc P w 0 (fun _=>true) true fuel tp cs=some x):∃y:VD,cs=[.int .i64 y.r,.int .i64 y.c,.int .i64 y.h,.int .i64 y.b,.int .i64 y.p]∧I64 y.r∧I64 y.c∧I64 y.h∧I64 y.b∧I64 y.p:=by
 obtain ⟨xs,n,_,_,hlen,hxl,hq⟩:=DataW.trod_struct hs h;rw [hC] at hlen
 match xs,hxl,cs,hlen with
 | [y0,y1,y2,y3,y4],_,[v0,v1,v2,v3,v4],_ =>
  have k0:=hq 0 g0 rfl;have k1:=hq 1 g1 rfl;have k2:=hq 2 g2 rfl;have k3:=hq 3 g3 rfl;have k4:=hq 4 g4 rfl;rw [e0.1,e0.2,hti] at k0;rw [e1.1,e1.2,hti] at k1;rw [e2.1,e2.2,hti] at k2;rw [e3.1,e3.2,hti] at k3;rw [e4.1,e4.2,hti] at k4
  simp at k0 k1 k2 k3 k4
  obtain ⟨A,i0,-,r0⟩:=DataW.trod_int hi k0;obtain ⟨B,i1,-,r1⟩:=DataW.trod_int hi k1;obtain ⟨C,i2,-,r2⟩:=DataW.trod_int hi k2;obtain ⟨D,i3,-,r3⟩:=DataW.trod_int hi k3;obtain ⟨E,i4,-,r4⟩:=DataW.trod_int hi k4;simp only [List.cons.injEq,and_true] at i0 i1 i2 i3 i4;subst i0 i1 i2 i3 i4;exact ⟨⟨A,B,C,D,E⟩,rfl,wf_64 r0,wf_64 r1,wf_64 r2,wf_64 r3,wf_64 r4⟩

theorem zlR {tp tv ti tb:TypeId} {f0 f1 f2 f3 g0 g1 g2 g3 g4:Field} (hp:P.underlying tp=some (.struct #[f0,f1,f2,f3])) (hs:P.underlying tv=some (.struct #[g0,g1,g2,g3,g4])) (hi:P.underlying ti=some (.int .i64)) (hb:P.underlying tb=some .bool)
  (e0:g0.type=ti∧g0.offset=0) (e1:g1.type=ti∧g1.offset=1) (e2:g2.type=ti∧g2.offset=2) (e3:g3.type=ti∧g3.offset=3) (e4:g4.type=ti∧g4.offset=4)
  (d0:f0.type=tb∧f0.offset=0) (d1:f1.type=ti∧f1.offset=1) (d2:f2.type=tb∧f2.offset=2) (d3:f3.type=tv∧f3.offset=3)
  (hC:P.cellsOf tp=8) (hCv:P.cellsOf tv=5) (hti:P.cellsOf ti=1) (htb:P.cellsOf tb=1)
  {fuel:Nat} {cs:List Value} {x:DataW H × List MemPlace} (h:DataW.trod enc P w 0 (fun _=>true) true fuel tp cs=some x):∃y,cs=ptF.cs y∧y.Rng:=by
 obtain ⟨xs,n,_,_,hlen,hxl,hq⟩:=DataW.trod_struct hp h;rw [hC] at hlen
 match xs,hxl,cs,hlen with
 | [y0,y1,y2,y3],_,[v0,v1,v2,v3,v4,v5,v6,v7],_ =>
  have k0:=hq 0 f0 rfl;have k1:=hq 1 f1 rfl;have k2:=hq 2 f2 rfl;have k3:=hq 3 f3 rfl;rw [d0.1,d0.2,htb] at k0;rw [d1.1,d1.2,hti] at k1;rw [d2.1,d2.2,htb] at k2;rw [d3.1,d3.2,hCv] at k3
  simp at k0 k1 k2 k3
  obtain ⟨U,i0,-⟩:=DataW.trod_bool hb k0;obtain ⟨K,i1,-,r1⟩:=DataW.trod_int hi k1;obtain ⟨A,i2,-⟩:=DataW.trod_bool hb k2;obtain ⟨V,i3,s0,s1,s2,s3,s4⟩:=ziK hs hi e0 e1 e2 e3 e4 hCv hti k3;simp only [List.cons.injEq,and_true] at i0 i1 i2 i3;obtain ⟨j0,j1,j2,j3,j4⟩:=i3;subst i0 i1 i2 j0 j1 j2 j3 j4;exact ⟨⟨U,K,A,V⟩,rfl,wf_64 r1,s0,s1,s2,s3,s4⟩

theorem zlc {ts tp tv ti tb:TypeId} {f0 f1 f2 f3 g0 g1 g2 g3 g4:Field} (hts:P.underlying ts=some (.slice tp)) (hp:P.underlying tp=some (.struct #[f0,f1,f2,f3])) (hs:P.underlying tv=some (.struct #[g0,g1,g2,g3,g4])) (hi:P.underlying ti=some (.int .i64)) (hb:P.underlying tb=some .bool)
  (e0:g0.type=ti∧g0.offset=0) (e1:g1.type=ti∧g1.offset=1) (e2:g2.type=ti∧g2.offset=2) (e3:g3.type=ti∧g3.offset=3) (e4:g4.type=ti∧g4.offset=4)
  (d0:f0.type=tb∧f0.offset=0) (d1:f1.type=ti∧f1.offset=1) (d2:f2.type=tb∧f2.offset=2) (d3:f3.type=tv∧f3.offset=3)
  (hC:P.cellsOf tp=8) (hCv:P.cellsOf tv=5) (hti:P.cellsOf ti=1) (htb:P.cellsOf tb=1)
  {fuel:Nat} {v:Value} {x:DataW H × List MemPlace} (h:DataW.trod enc P w 0 (fun _=>true) true fuel ts [v]=some x) :
  ∃a n c l,v=.slice a n c∧GRow ptF w a n c l∧∀x∈l,x.Rng :=
 zbU ⟨false,0,false,⟨0,0,0,0,0⟩⟩ ptF PT.Rng hts hC (fun h=>zlR hp hs hi hb e0 e1 e2 e3 e4 d0 d1 d2 d3 hC hCv hti htb h) h
end

end

section
open Go.RowKit

structure BR.Rng (b:BR):Prop where
 id:I64 b.id
 name:b.name.size≤maxLen
 ports:∀x∈b.ports,x.Rng
 f:∀x∈b.f,x.Rng
 v:∀x∈b.v.rows,x.Rng
 ticks:I64 b.ticks
 parse:I64 b.parse
 word:I64 b.word
 drops:I64 b.drops
 vers:I64 b.vers

structure zg2 (P:Program) (tB ts tpS tp tv tfS tf tV trS tr tiS ti tb:TypeId) (f0 f1 f2 f3 f4 f5 f6 f7 f8 f9 p0 p1 p2 p3 v0 v1 v2 v3 v4 e0 e1 e2 e3 e4 t0 t1 r0 r1 r2:Field):Prop where
 uB:P.underlying tB=some (.struct #[f0,f1,f2,f3,f4,f5,f6,f7,f8,f9])
 us:P.underlying ts=some .string
 upS:P.underlying tpS=some (.slice tp)
 up:P.underlying tp=some (.struct #[p0,p1,p2,p3])
 uv:P.underlying tv=some (.struct #[v0,v1,v2,v3,v4])
 ufS:P.underlying tfS=some (.slice tf)
 uf:P.underlying tf=some (.struct #[e0,e1,e2,e3,e4])
 uV:P.underlying tV=some (.struct #[t0,t1])
 urS:P.underlying trS=some (.slice tr)
 ur:P.underlying tr=some (.struct #[r0,r1,r2])
 uiS:P.underlying tiS=some (.slice ti)
 ui:P.underlying ti=some (.int .i64)
 ub:P.underlying tb=some .bool
 f0:f0.type=ti∧f0.offset=0
 f1:f1.type=ts∧f1.offset=1
 f2:f2.type=tpS∧f2.offset=2
 f3:f3.type=tfS∧f3.offset=3
 f4:f4.type=tV∧f4.offset=4
 f5:f5.type=ti∧f5.offset=6
 f6:f6.type=ti∧f6.offset=7
 f7:f7.type=ti∧f7.offset=8
 f8:f8.type=ti∧f8.offset=9
 f9:f9.type=ti∧f9.offset=10
 p0:p0.type=tb∧p0.offset=0
 p1:p1.type=ti∧p1.offset=1
 p2:p2.type=tb∧p2.offset=2
 p3:p3.type=tv∧p3.offset=3
 v0:v0.type=ti∧v0.offset=0
 v1:v1.type=ti∧v1.offset=1
 v2:v2.type=ti∧v2.offset=2
 v3:v3.type=ti∧v3.offset=3
 v4:v4.type=ti∧v4.offset=4
 e0:e0.type=ti∧e0.offset=0
 e1:e1.type=ti∧e1.offset=1
 e2:e2.type=ti∧e2.offset=2
 e3:e3.type=ti∧e3.offset=3
 e4:e4.type=tb∧e4.offset=4
 t0:t0.type=trS∧t0.offset=0
 t1:t1.type=tiS∧t1.offset=1
 r0:r0.type=ti∧r0.offset=0
 r1:r1.type=ti∧r1.offset=1
 r2:r2.type=ti∧r2.offset=2
 cB:P.cellsOf tB=11
 cs:P.cellsOf ts=1
 cpS:P.cellsOf tpS=1
 cp:P.cellsOf tp=8
 cv:P.cellsOf tv=5
 cfS:P.cellsOf tfS=1
 cf:P.cellsOf tf=5
 cV:P.cellsOf tV=2
 crS:P.cellsOf trS=1
 cr:P.cellsOf tr=3
 ciS:P.cellsOf tiS=1
 ci:P.cellsOf ti=1
 cb:P.cellsOf tb=1

section
open Go.ChangeShapes Go.WideShapes Go.ChangeAt
variable {H:Type} {enc:TypeId × Value→H} {P:Program} {w:World}

theorem zkC {tp ts tb tis ti:TypeId} {f0 f1 g0 g1 g2:Field} (hs:P.underlying tp=some (.struct #[f0,f1])) (hC:P.cellsOf tp=2) (ef0:f0.type=ts∧f0.offset=0) (ef1:f1.type=tis∧f1.offset=1) (cts:P.cellsOf ts=1) (ctis:P.cellsOf tis=1)
  (hts:P.underlying ts=some (.slice tb)) (htis:P.underlying tis=some (.slice ti)) (htb:P.underlying tb=some (.struct #[g0,g1,g2])) (hi:P.underlying ti=some (.int .i64))
  (e0:g0.type=ti∧g0.offset=0) (e1:g1.type=ti∧g1.offset=1) (e2:g2.type=ti∧g2.offset=2) (hCb:P.cellsOf tb=3) (hti:P.cellsOf ti=1)
  {fuel:Nat} {cs:List Value} {x:DataW H × List MemPlace} (h:DataW.trod enc P w 0 (fun _=>true) true fuel tp cs=some x) :
  ∃a n c o p q t,cs=[.slice a n c,.slice o p q]∧VTab w a n c o p q t∧∀x∈t.rows,x.Rng:=by
 obtain ⟨xs,n,_,_,hlen,hxl,hq⟩:=DataW.trod_struct hs h;rw [hC] at hlen
 match xs,hxl,cs,hlen with
 | [y0,y1],_,[v0,v1],_ =>
  have k0:=hq 0 f0 rfl;have k1:=hq 1 f1 rfl;rw [ef0.1,ef0.2,cts] at k0;rw [ef1.1,ef1.2,ctis] at k1
  simp at k0 k1
  obtain ⟨a,n,c,l,rfl,hl,hr⟩:=zbU ⟨0,0,0⟩ vrowF VR.Rng hts hCb (fun h=>zkz htb hi e0 e1 e2 hCb hti h) k0;rcases open_ints htis hi hti k1 with ⟨hcs,_⟩ | ⟨x,l',c',zs,hcs,_,hl',hm,hz,_,hcell,hwz⟩
  ·simp only [List.cons.injEq,and_true] at hcs;subst hcs;exact ⟨a,n,c,none,0,0,⟨l,[]⟩,rfl,⟨hl,zk5 w⟩,hr⟩
  ·simp only [List.cons.injEq,and_true] at hcs;subst hcs;exact ⟨a,n,c,some x,l',c',⟨l,zs.take l'⟩,rfl,⟨hl,zjR hl' hm (by simpa using hz) hcell hwz⟩,hr⟩

end

end

section
open Go.RowKit

def LK.Rng (x:LK):Prop:=I64 x.a∧I64 x.p∧I64 x.b∧I64 x.q
def SY.Rng (x:SY):Prop:=I64 x.l∧I64 x.v.r∧I64 x.v.c∧I64 x.v.h∧I64 x.v.b∧I64 x.v.p

structure NV.Rng (N:NV):Prop where
 b:∀x∈N.bs,x.B.Rng
 l:∀x∈N.ls,x.Rng
 s:∀x∈N.ss,x.Rng

structure zfr (P:Program) (tlS tl ti:TypeId) (l0 l1 l2 l3:Field):Prop where
 ulS:P.underlying tlS=some (.slice tl)
 ul:P.underlying tl=some (.struct #[l0,l1,l2,l3])
 ui:P.underlying ti=some (.int .i64)
 l0:l0.type=ti∧l0.offset=0
 l1:l1.type=ti∧l1.offset=1
 l2:l2.type=ti∧l2.offset=2
 l3:l3.type=ti∧l3.offset=3
 cl:P.cellsOf tl=4
 ci:P.cellsOf ti=1

structure zg4 (P:Program) (tN tbS tB tlS tsS tS tv ti tb:TypeId) (n0 n1 n2 s0 s1 s2 v0 v1 v2 v3 v4:Field):Prop where
 uN:P.underlying tN=some (.struct #[n0,n1,n2])
 ubS:P.underlying tbS=some (.slice tB)
 usS:P.underlying tsS=some (.slice tS)
 uS:P.underlying tS=some (.struct #[s0,s1,s2])
 uv:P.underlying tv=some (.struct #[v0,v1,v2,v3,v4])
 ui:P.underlying ti=some (.int .i64)
 ub:P.underlying tb=some .bool
 n0:n0.type=tbS∧n0.offset=0
 n1:n1.type=tlS∧n1.offset=1
 n2:n2.type=tsS∧n2.offset=2
 s0:s0.type=ti∧s0.offset=0
 s1:s1.type=tb∧s1.offset=1
 s2:s2.type=tv∧s2.offset=2
 v0:v0.type=ti∧v0.offset=0
 v1:v1.type=ti∧v1.offset=1
 v2:v2.type=ti∧v2.offset=2
 v3:v3.type=ti∧v3.offset=3
 v4:v4.type=ti∧v4.offset=4
 cN:P.cellsOf tN=3
 cbS:P.cellsOf tbS=1
 clS:P.cellsOf tlS=1
 csS:P.cellsOf tsS=1
 cS:P.cellsOf tS=7
 cv:P.cellsOf tv=5
 ci:P.cellsOf ti=1
 cb:P.cellsOf tb=1

section
open Go.ChangeShapes Go.WideShapes Go.ChangeAt
variable {H:Type} {enc:TypeId × Value→H} {P:Program} {w:World}

theorem zhc {tB ts tpS tp tv tfS tf tV trS tr tiS ti tb:TypeId} {f0 f1 f2 f3 f4 f5 f6 f7 f8 f9 p0 p1 p2 p3 v0 v1 v2 v3 v4 e0 e1 e2 e3 e4 t0 t1 r0 r1 r2:Field} (T:zg2 P tB ts tpS tp tv tfS tf tV trS tr tiS ti tb f0 f1 f2 f3 f4 f5 f6 f7 f8 f9 p0 p1 p2 p3 v0 v1 v2 v3 v4 e0 e1 e2 e3 e4 t0 t1 r0 r1 r2)
  {fuel:Nat} {cl:List Value} {x:DataW H × List MemPlace} (h:DataW.trod enc P w 0 (fun _=>true) true fuel tB cl=some x):∃y:BV,cl=brF.cs y∧(y.Reads w∧y.B.Rng):=by
 obtain ⟨xs,m,_,_,hlen,hxl,hq⟩:=DataW.trod_struct T.uB h;rw [T.cB] at hlen;have hq:∀(i:Nat) (fd:Field),#[f0,f1,f2,f3,f4,f5,f6,f7,f8,f9][i]?=some fd→_:=hq
 match xs,hxl,cl,hlen with
 | [y0,y1,y2,y3,y4,y5,y6,y7,y8,y9],_,[u0,u1,u2,u3,u4,u5,u6,u7,u8,u9,u10],_ =>
  have k0:=hq 0 f0 rfl;have k1:=hq 1 f1 rfl;have k2:=hq 2 f2 rfl;have k3:=hq 3 f3 rfl;have k4:=hq 4 f4 rfl;have k5:=hq 5 f5 rfl;have k6:=hq 6 f6 rfl;have k7:=hq 7 f7 rfl;have k8:=hq 8 f8 rfl;have k9:=hq 9 f9 rfl;rw [T.f0.1,T.f0.2,T.ci] at k0;rw [T.f1.1,T.f1.2,T.cs] at k1;rw [T.f2.1,T.f2.2,T.cpS] at k2;rw [T.f3.1,T.f3.2,T.cfS] at k3;rw [T.f4.1,T.f4.2,T.cV] at k4;rw [T.f5.1,T.f5.2,T.ci] at k5;rw [T.f6.1,T.f6.2,T.ci] at k6;rw [T.f7.1,T.f7.2,T.ci] at k7;rw [T.f8.1,T.f8.2,T.ci] at k8;rw [T.f9.1,T.f9.2,T.ci] at k9
  simp at k0 k1 k2 k3 k4 k5 k6 k7 k8 k9
  obtain ⟨Id,i0,-,r0⟩:=DataW.trod_int T.ui k0;obtain ⟨Nm,i1,-,r1⟩:=DataW.trod_string T.us k1;obtain ⟨a,n,c,lp,rfl,hp,rp⟩:=zlc T.upS T.up T.uv T.ui T.ub T.v0 T.v1 T.v2 T.v3 T.v4 T.p0 T.p1 T.p2 T.p3 T.cp T.cv T.ci T.cb k2;obtain ⟨fa,fn,fc,lf,rfl,hf',rf⟩:=zbU ⟨0,0,0,0,false⟩ fentF FE.Rng T.ufS T.cf (fun h=>zjF T.uf T.ui T.ub T.e0 T.e1 T.e2 T.e3 T.e4 T.cf T.ci T.cb h) k3;obtain ⟨ra,rn,rc,oa,on,oc,vt,i4,hvt,rv⟩:=zkC T.uV T.cV T.t0 T.t1 T.crS T.ciS T.urS T.uiS T.ur T.ui T.r0 T.r1 T.r2 T.cr T.ci k4;obtain ⟨Ti,i5,-,r5⟩:=DataW.trod_int T.ui k5;obtain ⟨Pa,i6,-,r6⟩:=DataW.trod_int T.ui k6;obtain ⟨Wo,i7,-,r7⟩:=DataW.trod_int T.ui k7;obtain ⟨Dr,i8,-,r8⟩:=DataW.trod_int T.ui k8;obtain ⟨Ve,i9,-,r9⟩:=DataW.trod_int T.ui k9;simp only [List.cons.injEq,and_true] at i0 i1 i4 i5 i6 i7 i8 i9;obtain ⟨j0,j1⟩:=i4;subst i0 i1 j0 j1 i5 i6 i7 i8 i9;exact ⟨⟨a,n,c,fa,fn,fc,ra,rn,rc,oa,on,oc,⟨Id,Nm,lp,lf,vt,Ti,Pa,Wo,Dr,Ve⟩⟩,rfl,⟨hp,hf',hvt⟩,wf_64 r0,r1,rp,rf,rv,wf_64 r5,wf_64 r6,wf_64 r7,wf_64 r8,wf_64 r9⟩

theorem zjW {tlS tl ti:TypeId} {l0 l1 l2 l3:Field} (T:zfr P tlS tl ti l0 l1 l2 l3) {fuel:Nat} {cs:List Value} {x:DataW H × List MemPlace} (h:DataW.trod enc P w 0 (fun _=>true) true fuel tl cs=some x):∃y,cs=linkF.cs y∧y.Rng:=by
 obtain ⟨xs,n,_,_,hlen,hxl,hq⟩:=DataW.trod_struct T.ul h;rw [T.cl] at hlen
 match xs,hxl,cs,hlen with
 | [y0,y1,y2,y3],_,[v0,v1,v2,v3],_ =>
  have k0:=hq 0 l0 rfl;have k1:=hq 1 l1 rfl;have k2:=hq 2 l2 rfl;have k3:=hq 3 l3 rfl;rw [T.l0.1,T.l0.2,T.ci] at k0;rw [T.l1.1,T.l1.2,T.ci] at k1;rw [T.l2.1,T.l2.2,T.ci] at k2;rw [T.l3.1,T.l3.2,T.ci] at k3
  simp at k0 k1 k2 k3
  obtain ⟨A,i0,-,r0⟩:=DataW.trod_int T.ui k0;obtain ⟨B,i1,-,r1⟩:=DataW.trod_int T.ui k1;obtain ⟨C,i2,-,r2⟩:=DataW.trod_int T.ui k2;obtain ⟨D,i3,-,r3⟩:=DataW.trod_int T.ui k3;simp only [List.cons.injEq,and_true] at i0 i1 i2 i3;subst i0 i1 i2 i3;exact ⟨⟨A,B,C,D⟩,rfl,wf_64 r0,wf_64 r1,wf_64 r2,wf_64 r3⟩

theorem zja {tlS tl ti:TypeId} {l0 l1 l2 l3:Field} (T:zfr P tlS tl ti l0 l1 l2 l3) {fuel:Nat} {v:Value} {x:DataW H × List MemPlace} (h:DataW.trod enc P w 0 (fun _=>true) true fuel tlS [v]=some x) :
  ∃ao len cap l,v=.slice ao len cap∧GRow linkF w ao len cap l∧∀x∈l,x.Rng :=
 zbU ⟨0,0,0,0⟩ linkF LK.Rng T.ulS T.cl (fun h=>zjW T h) h

theorem zlj {tN tbS tB tlS tsS tS tv ti tb:TypeId} {n0 n1 n2 s0 s1 s2 v0 v1 v2 v3 v4:Field} (T:zg4 P tN tbS tB tlS tsS tS tv ti tb n0 n1 n2 s0 s1 s2 v0 v1 v2 v3 v4) {fuel:Nat} {cs:List Value} {x:DataW H × List MemPlace} (h:DataW.trod enc P w 0 (fun _=>true) true fuel tS cs=some x):∃y,cs=sayF.cs y∧y.Rng:=by
 obtain ⟨xs,n,_,_,hlen,hxl,hq⟩:=DataW.trod_struct T.uS h;rw [T.cS] at hlen
 match xs,hxl,cs,hlen with
 | [y0,y1,y2],_,[u0,u1,u2,u3,u4,u5,u6],_ =>
  have k0:=hq 0 s0 rfl;have k1:=hq 1 s1 rfl;have k2:=hq 2 s2 rfl;rw [T.s0.1,T.s0.2,T.ci] at k0;rw [T.s1.1,T.s1.2,T.cb] at k1;rw [T.s2.1,T.s2.2,T.cv] at k2
  simp at k0 k1 k2
  obtain ⟨L,i0,-,r0⟩:=DataW.trod_int T.ui k0;obtain ⟨B,i1,-⟩:=DataW.trod_bool T.ub k1;obtain ⟨V,i2,a0,a1,a2,a3,a4⟩:=ziK T.uv T.ui T.v0 T.v1 T.v2 T.v3 T.v4 T.cv T.ci k2;simp only [List.cons.injEq,and_true] at i0 i1 i2;obtain ⟨j0,j1,j2,j3,j4⟩:=i2;subst i0 i1 j0 j1 j2 j3 j4;exact ⟨⟨L,B,V⟩,rfl,wf_64 r0,a0,a1,a2,a3,a4⟩

def BV.zero:BV:=⟨none,0,0,none,0,0,none,0,0,none,0,0,⟨0,⟨#[]⟩,[],[],⟨[],[]⟩,0,0,0,0,0⟩⟩

theorem zlb {tN tbS tB tlS tl tsS tS ts tpS tp tv tfS tf tV trS tr tiS ti tb:TypeId} {f0 f1 f2 f3 f4 f5 f6 f7 f8 f9 p0 p1 p2 p3 v0 v1 v2 v3 v4 e0 e1 e2 e3 e4 t0 t1 r0 r1 r2 l0 l1 l2 l3 n0 n1 n2 s0 s1 s2:Field}
  (T:zg2 P tB ts tpS tp tv tfS tf tV trS tr tiS ti tb f0 f1 f2 f3 f4 f5 f6 f7 f8 f9 p0 p1 p2 p3 v0 v1 v2 v3 v4 e0 e1 e2 e3 e4 t0 t1 r0 r1 r2) (L:zfr P tlS tl ti l0 l1 l2 l3) (S:zg4 P tN tbS tB tlS tsS tS tv ti tb n0 n1 n2 s0 s1 s2 v0 v1 v2 v3 v4)
  {r:Reach} {b0:Nat} {v:Value} {d:DataW H} {p:List MemPlace} (hv:Value.okWide P w r b0 tN v) (h:DataW.Trod enc P w 0 (fun _=>true) true tN v d p) :
  ∃N:NV,v=.agg #[.slice N.ba N.bn N.bc,.slice N.la N.ln N.lc,.slice N.sa N.sn N.sc]∧zae w N∧N.Rng:=by
 obtain ⟨cs,rfl,hsz⟩:=okWide_struct S.uN hv;obtain ⟨fuel,hf⟩:=h;obtain ⟨xs,m,_,_,hlen,hxl,hq⟩:=DataW.trod_struct S.uN hf;rw [S.cN] at hlen;obtain ⟨cl⟩:=cs;have hlen:cl.length=3:=hlen
 match xs,hxl,cl,hlen with
 | [y0,y1,y2],_,[u0,u1,u2],_ =>
  have k0:=hq 0 n0 rfl;have k1:=hq 1 n1 rfl;have k2:=hq 2 n2 rfl;rw [S.n0.1,S.n0.2,S.cbS] at k0;rw [S.n1.1,S.n1.2,S.clS] at k1;rw [S.n2.1,S.n2.2,S.csS] at k2
  simp [Value.cells] at k0 k1 k2
  obtain ⟨ba,bn,bc,bs,rfl,hb,rb⟩:=zbU BV.zero brF (fun y=>y.Reads w∧y.B.Rng) S.ubS T.cB (fun h=>zhc T h) k0;obtain ⟨la,ln,lc,ls,rfl,hl,rl⟩:=zja L k1;obtain ⟨sa,sn,sc,ss,rfl,hs,rs⟩:=zbU ⟨0,false,⟨0,0,0,0,0⟩⟩ sayF SY.Rng S.usS S.cS (fun h=>zlj S h) k2;exact ⟨⟨ba,bn,bc,bs,la,ln,lc,ls,sa,sn,sc,ss⟩,rfl,⟨hb,fun x hx=>(rb x hx).1,hl,hs⟩,fun x hx=>(rb x hx).2,rl,rs⟩
end

end

theorem zdr (a:Option Addr) (n c:Nat) (l:List VR) (o:Option Addr) (p q:Nat) (id:Int) (w:World) (h:GRow vrowF w a n c l) :
  Calls Tryz.prog 139 #[.agg #[.slice a n c,.slice o p q],.int .i64 id] w fun r w'=>r=.returned (.int .i64 (rowAt l id))∧Below w.heap.size w w':=by
 have hle:=h.le;have htop:=h.top;unfold maxLen at htop;have hsz:=h.size;have hW:Below w.heap.size w (w.alloc (Obj.cells #[Value.slice a n c,Value.slice o p q] 62)):=zl _ _;have h:=h.below hW;go_enter Tryz.func139,Tryz.ntmps139;go_wp2
 go_loop [5] (fun i=>∃k:Nat,k≤n∧i=.int .i64 k∧∀(j:Nat) (y:VR),j < k→l[j]?=some y→(y.i == id)=false) (fun i=>n - (intOf i).toNat)
 case atStart=>exact ⟨0,Nat.zero_le _,rfl,fun j y hj=>by omega⟩
 case round =>
  obtain ⟨k,hk,rfl,hno⟩:=hrel;by_cases hlt:k < n
  ·obtain ⟨x,b,off,hx,rfl,c0,-,-⟩:=zbC h k hlt;cases t1:(x.i == id)
   ·have HO:=hide (ziL hno hx t1);clear hno;go_wp2
    go_round
    case rel=>exact ⟨k+1,by omega,by go_num,HO.out⟩
    case measure=>simp [intOf]; omega
   ·have HF:=hide (zew hno hx t1);clear hno;go_wp2;go_ret;exact ⟨(by rw [HF.out]; rfl),hW⟩
  ·have hkn:k=n:=by omega
   have HF:=hide (zfh (l:=l) (id:=id) (fun i y hy=>hno i y (by have:=(List.getElem?_eq_some_iff.1 hy).1; omega) hy));clear hno;subst hkn;go_wp2;go_ret;exact ⟨(by rw [HF.out]; rfl),hW⟩

theorem zx {K:World→Prop} {W:World} {o:Obj} (h:∀wx,wx.heap[W.heap.size]?=some o→Below W.heap.size W wx→K wx):K (W.alloc o):=h _ (zr W o) (zl W o)

theorem zq {K:World→Prop} {W:World} {o:Obj} (h:∀wx,wx.heap[W.heap.size]?=some o→Below W.drew.heap.size W.drew wx→K wx):K (W.alloc o).drew:=h _ (zr W o) (zl W.drew o)

theorem zh7 (R C H B P R' C' H' B' P':Int) (w:World):(binOp .eql 101 (.agg #[.int .i64 R,.int .i64 C,.int .i64 H,.int .i64 B,.int .i64 P]) (.agg #[.int .i64 R',.int .i64 C',.int .i64 H',.int .i64 B',.int .i64 P'])).run Tryz.prog w=.ok (.bool ((R == R') && ((C == C') && ((H == H') && ((B == B') && (P == P')))))) w:=by
 have u3:=Tryz.underlying3;have a3:=Tryz.isAgg3;have z3:=Tryz.sizeOf3;have hS:Tryz.prog.underlying 101=some (.struct (Tryz.prog.fieldsOf 101)):=by kernel_rfl
 have hp:Tryz.prog.stoodInHeld 101=false:=by kernel_rfl
 rw [run_eql_struct,show (10000:Nat)=9999+1 from rfl,run_equalIn_agg w 9999 101 _ _ hS hp];simp only [Program.fieldsOf,Tryz.underlying101];go_simp;by_cases h1:R=R' <;> by_cases h2:C=C' <;> by_cases h3:H=H' <;> by_cases h4:B=B' <;> by_cases h5:P=P' <;> simp [h1,h2,h3,h4,h5]

theorem zeY {w:World} {g:Nat} {T:TypeId} {c0 c1 c2 c3 c4 c5 c6 c7:Value} (h:w.heap[g]?=some (.cells #[c0,c1,c2,c3,c4,c5,c6,c7] T)) :
  w.cell? ⟨g,0,none⟩=some c0∧w.cell? ⟨g,1,none⟩=some c1∧w.cell? ⟨g,2,none⟩=some c2∧w.cell? ⟨g,3,none⟩=some c3∧w.cell? ⟨g,4,none⟩=some c4∧w.cell? ⟨g,5,none⟩=some c5∧w.cell? ⟨g,6,none⟩=some c6∧w.cell? ⟨g,7,none⟩=some c7:=by
 simp [World.cell?,h]

theorem zdN (x:PT) (w:World) :
  Calls Tryz.prog 97 #[.agg #[.bool x.up,.int .i64 x.k,.bool x.has,.int .i64 x.v.r,.int .i64 x.v.c,.int .i64 x.v.h,.int .i64 x.v.b,.int .i64 x.v.p]] w fun e w'=>e=.returned (.bool (ptOk x))∧Below w.heap.size w w':=by
 have he:∀W,(binOp .eql 101 (.agg #[.int .i64 x.v.r,.int .i64 x.v.c,.int .i64 x.v.h,.int .i64 x.v.b,.int .i64 x.v.p]) (.agg #[.int .i64 0,.int .i64 0,.int .i64 0,.int .i64 0,.int .i64 0])).run Tryz.prog W=.ok (.bool (zdQ x.v)) W:=fun W=>by rw [zh7]; rfl
 have hgd:Tryz.prog.eqGuardType Tryz.prog.depth 101=false:=by kernel_rfl
 obtain ⟨up,k,has,⟨r,c,h,b,p⟩⟩:=x
 simp only at he ⊢
 generalize hw1:w.alloc (.cells #[.bool up,.int .i64 k,.bool has,.int .i64 r,.int .i64 c,.int .i64 h,.int .i64 b,.int .i64 p] 103)=w1;have q0:=zb hw1;obtain ⟨c0,c1,c2,c3,c4,c5,c6,c7⟩:=zeY (by rw [← hw1]; exact zr w _:w1.heap[w.heap.size]?=_);cases t1:(decide (1≤k) && decide (k≤1000))
 ·have T1:=hide t1;rw [show ptOk ⟨up,k,has,⟨r,c,h,b,p⟩⟩=false by unfold ptOk; rw [t1]; rfl];clear t1;go_enter Tryz.func97,Tryz.ntmps97;(go_wp2_with fail);refine (zh k 1 1000 _).mono ?_;rintro e w2 ⟨rfl,rfl⟩;rw [T1.out];go_wp2;go_ret;exact ⟨rfl,q0⟩
 cases has
 ·rw [show ptOk ⟨up,k,false,⟨r,c,h,b,p⟩⟩=zdQ ⟨r,c,h,b,p⟩ by unfold ptOk; rw [t1]; cases up <;> rfl];have T1:=hide t1;generalize zdQ ⟨r,c,h,b,p⟩=Q at *;clear t1;cases up <;>
  ·go_enter Tryz.func97,Tryz.ntmps97;(go_wp2_with fail);refine (zh k 1 1000 _).mono ?_;rintro e w2 ⟨rfl,rfl⟩;rw [T1.out];go_wp2;go_ret;exact ⟨rfl,q0⟩
 cases up
 ·rw [show ptOk ⟨false,k,true,⟨r,c,h,b,p⟩⟩=false by unfold ptOk; rw [t1]; rfl];have T1:=hide t1;clear t1;go_enter Tryz.func97,Tryz.ntmps97;(go_wp2_with fail);refine (zh k 1 1000 _).mono ?_;rintro e w2 ⟨rfl,rfl⟩;rw [T1.out];go_wp2;go_ret;exact ⟨rfl,q0⟩
 ·rw [show ptOk ⟨true,k,true,⟨r,c,h,b,p⟩⟩=okVc r c h b p by unfold ptOk; rw [t1]; rfl];have T1:=hide t1;clear t1;go_enter Tryz.func97,Tryz.ntmps97;(go_wp2_with fail);refine (zh k 1 1000 _).mono ?_;rintro e w2 ⟨rfl,rfl⟩;rw [T1.out];(go_wp2_with fail);refine (zas r c h b p _).mono ?_;rintro e w3 ⟨rfl,hb3⟩;have HB:=hide (zc q0 hb3);clear hb3;go_wp2;go_ret;exact ⟨rfl,HB.out⟩

theorem zcm (e:FE) (w:World) :
  Calls Tryz.prog 137 #[.agg #[.int .i64 e.t,.int .i64 e.m,.int .i64 e.p,.int .i64 e.a,.bool e.s]] w fun r w'=>r=.returned (.bool (entOk e))∧Below w.heap.size w w':=by
 generalize hP:entOk e=Q;unfold entOk at hP;cases t1:(decide (1≤e.t) && decide (e.t≤99))
 ·have h:Q=false:=by rw [← hP,t1]; rfl
  subst h;have T1:=hide t1;clear hP t1;go_enter Tryz.func137,Tryz.ntmps137;(go_wp2_with fail);refine (zh e.t 1 99 _).mono ?_;rintro r w1 ⟨rfl,rfl⟩;rw [T1.out];go_wp2;go_ret;exact ⟨rfl,zl _ _⟩
 cases t2:(decide (1≤e.m) && decide (e.m≤9999))
 ·have h:Q=false:=by rw [← hP,t1,t2]; rfl
  subst h;have T1:=hide t1;have T2:=hide t2;clear hP t1 t2;go_enter Tryz.func137,Tryz.ntmps137;(go_wp2_with fail);refine (zh e.t 1 99 _).mono ?_;rintro r w1 ⟨rfl,rfl⟩;rw [T1.out];(go_wp2_with fail);refine (zh e.m 1 9999 _).mono ?_;rintro r w2 ⟨rfl,rfl⟩;rw [T2.out];go_wp2;go_ret;exact ⟨rfl,zl _ _⟩
 cases t3:(decide (0≤e.p) && decide (e.p≤7))
 ·have h:Q=false:=by rw [← hP,t1,t2,t3]; rfl
  subst h;have T1:=hide t1;have T2:=hide t2;have T3:=hide t3;clear hP t1 t2 t3;go_enter Tryz.func137,Tryz.ntmps137;(go_wp2_with fail);refine (zh e.t 1 99 _).mono ?_;rintro r w1 ⟨rfl,rfl⟩;rw [T1.out];(go_wp2_with fail);refine (zh e.m 1 9999 _).mono ?_;rintro r w2 ⟨rfl,rfl⟩;rw [T2.out];(go_wp2_with fail);refine (zh e.p 0 7 _).mono ?_;rintro r w3 ⟨rfl,rfl⟩;rw [T3.out];go_wp2;go_ret;exact ⟨rfl,zl _ _⟩
 cases t4:(decide (0≤e.a) && decide (e.a≤4))
 ·have h:Q=false:=by rw [← hP,t1,t2,t3,t4]; rfl
  subst h;have T1:=hide t1;have T2:=hide t2;have T3:=hide t3;have T4:=hide t4;clear hP t1 t2 t3 t4;go_enter Tryz.func137,Tryz.ntmps137;(go_wp2_with fail);refine (zh e.t 1 99 _).mono ?_;rintro r w1 ⟨rfl,rfl⟩;rw [T1.out];(go_wp2_with fail);refine (zh e.m 1 9999 _).mono ?_;rintro r w2 ⟨rfl,rfl⟩;rw [T2.out];(go_wp2_with fail);refine (zh e.p 0 7 _).mono ?_;rintro r w3 ⟨rfl,rfl⟩;rw [T3.out];(go_wp2_with fail);refine (zh e.a 0 4 _).mono ?_;rintro r w4 ⟨rfl,rfl⟩;rw [T4.out];go_wp2;go_ret;exact ⟨rfl,zl _ _⟩
 rw [t1,t2,t3,t4,Bool.true_and,Bool.true_and,Bool.true_and,Bool.true_and] at hP;have T1:=hide t1;have T2:=hide t2;have T3:=hide t3;have T4:=hide t4;clear t1 t2 t3 t4;cases hs:e.s
 ·rw [hs] at hP;have h:Q=true:=by rw [← hP]; rfl
  subst h;clear hP;go_enter Tryz.func137,Tryz.ntmps137;(go_wp2_with fail);refine (zh e.t 1 99 _).mono ?_;rintro r w1 ⟨rfl,rfl⟩;rw [T1.out];(go_wp2_with fail);refine (zh e.m 1 9999 _).mono ?_;rintro r w2 ⟨rfl,rfl⟩;rw [T2.out];(go_wp2_with fail);refine (zh e.p 0 7 _).mono ?_;rintro r w3 ⟨rfl,rfl⟩;rw [T3.out];(go_wp2_with fail);refine (zh e.a 0 4 _).mono ?_;rintro r w4 ⟨rfl,rfl⟩;rw [T4.out];go_wp2;go_ret;exact ⟨rfl,zl _ _⟩
 ·rw [hs,Bool.not_true,Bool.false_or] at hP;have HP:=hide hP;clear hP;go_enter Tryz.func137,Tryz.ntmps137;(go_wp2_with fail);refine (zh e.t 1 99 _).mono ?_;rintro r w1 ⟨rfl,rfl⟩;rw [T1.out];(go_wp2_with fail);refine (zh e.m 1 9999 _).mono ?_;rintro r w2 ⟨rfl,rfl⟩;rw [T2.out];(go_wp2_with fail);refine (zh e.p 0 7 _).mono ?_;rintro r w3 ⟨rfl,rfl⟩;rw [T3.out];(go_wp2_with fail);refine (zh e.a 0 4 _).mono ?_;rintro r w4 ⟨rfl,rfl⟩;rw [T4.out];go_wp2;go_ret;exact ⟨zK HP.out,zl _ _⟩

theorem zdo (e:FE) (t m:Int) (w:World) :
  Calls Tryz.prog 138 #[.agg #[.int .i64 e.t,.int .i64 e.m,.int .i64 e.p,.int .i64 e.a,.bool e.s],.int .i64 t,.int .i64 m] w fun r w'=>r=.returned (.bool (ahead e t m))∧Below w.heap.size w w':=by
 unfold ahead;cases t1:(e.t != t)
 ·rw [if_neg Bool.false_ne_true];go_enter Tryz.func138,Tryz.ntmps138;go_wp2;go_ret;exact ⟨rfl,zl _ _⟩
 ·rw [if_pos rfl];go_enter Tryz.func138,Tryz.ntmps138;go_wp2;go_ret;exact ⟨rfl,zl _ _⟩

def okTo (l:List FE) (k:Nat):Prop:=∀i x,i < k→l[i]?=some x→entOk x=true∧∀y,0 < i→l[i - 1]?=some y→ahead y x.t x.m=true

theorem zdB:∀(l:List FE),rises l=true↔okTo l l.length
 | []=>by simp [rises,okTo]
 | [e]=>by
  simp only [rises,okTo,List.length_singleton]
  constructor
  ·intro h i x hi hx;have h0:i=0:=by omega
   subst h0
   simp at hx
   subst hx;exact ⟨h,fun y hy=>by omega⟩
  ·intro h;exact (h 0 e (by omega) rfl).1
 | e::f::r=>by
  have ih:=zdB (f::r);unfold rises;simp only [Bool.and_eq_true,ih]
  constructor
  ·rintro ⟨h1,h2,h3⟩ i x hi hx
   match i,hx with
   | 0,hx =>
    simp at hx
    subst hx;exact ⟨h1,fun y hy=>by omega⟩
   | 1,hx =>
    simp at hx
    subst hx;refine ⟨(h3 0 f (by simp) rfl).1,fun y _ hy => ?_⟩
    simp at hy
    subst hy;exact h2
   | i+2,hx =>
    obtain ⟨a1,a2⟩:=h3 (i+1) x (by simp at hi ⊢; omega) (by simpa using hx);exact ⟨a1,fun y _ hy=>a2 y (by omega) (by simpa using hy)⟩
  ·intro h;refine ⟨(h 0 e (by simp) rfl).1,(h 1 f (by simp) rfl).2 e (by omega) rfl,fun i x hi hx => ?_⟩;obtain ⟨a1,a2⟩:=h (i+1) x (by simp at hi ⊢; omega) (by simpa using hx);refine ⟨a1,fun y hy hz=>a2 y (by omega) ?_⟩;obtain ⟨j,rfl⟩:∃j,i=j+1:=⟨i - 1,by omega⟩
   simpa using hz

theorem zdj {l:List FE} {k:Nat} {x:FE} (h:okTo l k) (hx:l[k]?=some x) (h1:entOk x=true) (h2:∀y,0 < k→l[k - 1]?=some y→ahead y x.t x.m=true):okTo l (k+1):=by
 intro i z hi hz;by_cases e:i=k
 ·subst e;rw [hx] at hz;cases hz;exact ⟨h1,h2⟩
 ·exact h i z (by omega) hz

theorem zc7 {l:List FE} (h:¬okTo l l.length):fdbOk l=false:=by
 unfold fdbOk
 have:rises l=false:=by
  cases hr:rises l
  ·rfl
  ·exact absurd ((zdB l).1 hr) h
 rw [this]
 rfl

theorem zgj {l:List FE} (h:okTo l l.length):fdbOk l=decide ((l.length:Int)≤12):=by
 unfold fdbOk;rw [(zdB l).2 h]
 rfl

theorem zmc:(Tryz.prog.info? 103).map (fun i=>(i.zero,i.size,i.bytes))=some (some (.agg #[.bool false,.int .i64 0,.bool false,.int .i64 0,.int .i64 0,.int .i64 0,.int .i64 0,.int .i64 0]),ptF.k,64):=by kernel_rfl

theorem zgK (w:World) {ops:Array Oper} {rest:List Oper} {o:Oper} {a:Act} {Q:Exit→Act→World→Prop} (hgd:o.guard=none)
  (s x:Operand) (ho:o.op=Op.call { callee:=Callee.builtin Builtin.append,args:=#[s,x],argTypes:=#[57,57] }) (base:Nat)
  (v:Value) (n:Nat) (xs:List PT) (hs:a.eval s=v) (hown:w.ownsRow base 103 8 v n (ptF.all xs)) (ao:Option Addr) (m c:Nat) (zs:List PT)
  (hx:a.eval x=.slice ao m c) (hrow:GRow ptF w ao m c zs) (hsm:n+m≤137438953472) (hbase:base≤w.heap.size)
  (h:∀ao' cap' w',w'.ownsRow base 103 8 (.slice ao' (n+m) cap') (n+m) (ptF.all (xs++zs))→GRow ptF w' ao' (n+m) cap' (xs++zs)→w.grownBy w' v.ownBlock→Below base w w'→wpList Tryz.prog ops Q rest (a.put o.dst (.slice ao' (n+m) cap')) w') :
  wpList Tryz.prog ops Q (o::rest) a w :=
 zaa (F:=ptF) w hgd s x 57 103 ho base Tryz.underlying57 zmc rfl (by decide) v n xs hs hown ao m c zs hx hrow hsm hbase h

theorem zf {w:World} {g:Nat} {T:TypeId} {cs:Array Value} (h:w.heap[g]?=some (.cells cs T)) (j:Nat):w.frozen? ⟨g,j,none⟩=false:=by
 simp [World.frozen?,h]

theorem zkt (x:PT) (w:World) :
  Calls Tryz.prog 142 #[.agg #[.bool x.up,.int .i64 x.k,.bool x.has,.int .i64 x.v.r,.int .i64 x.v.c,.int .i64 x.v.h,.int .i64 x.v.b,.int .i64 x.v.p]] w fun r w'=>r=.returned (.agg #[.bool x.up,.int .i64 x.k,.bool x.has,.int .i64 x.v.r,.int .i64 x.v.c,.int .i64 x.v.h,.int .i64 x.v.b,.int .i64 x.v.p])∧Below w.heap.size w w':=by
 go_enter Tryz.func142,Tryz.ntmps142;go_wp2_with fail
 refine (zfo x.v.r x.v.c x.v.h x.v.b x.v.p _).mono ?_;rintro e w2 ⟨rfl,hb2⟩;obtain ⟨-,k1,k2⟩:=za0 hb2;have HB0:=hide (zc (zac w _ _ _) hb2);clear hb2;obtain ⟨d0,d1,d2,d3,d4,d5,d6,d7⟩:=zeY k2;obtain ⟨e0,e1,e2,e3,e4,e5,e6,e7⟩:=zeY k1;have fr:∀j,w2.frozen? ⟨w.heap.size+1+1,j,none⟩=false:=fun j=>by simp [World.frozen?,k2]
 have gr:∀j,w2.frozen? ⟨w.heap.size+1,j,none⟩=false:=fun j=>by simp [World.frozen?,k1]
 have f3:=fr 3;have f4:=fr 4;have f5:=fr 5;have f6:=fr 6;have f7:=fr 7;have g0:=gr 0;have g1:=gr 1;have g2:=gr 2;have g3:=gr 3;have g4:=gr 4;have g5:=gr 5;have g6:=gr 6;have g7:=gr 7;have ne1:¬w.heap.size+1=w.heap.size+1+1:=by omega
 have ne2:¬w.heap.size+1+1=w.heap.size+1:=by omega
 have HB:=hide (zn (zn (zn (zn (zn (zn (zn (zn (zn (zn (zn (zn (zn HB0.out (g:=w.heap.size+1+1) (by omega) 3 (.int .i64 x.v.r)) (g:=w.heap.size+1+1) (by omega) 4 (.int .i64 x.v.c)) (g:=w.heap.size+1+1) (by omega) 5 (.int .i64 x.v.h)) (g:=w.heap.size+1+1) (by omega) 6 (.int .i64 x.v.b)) (g:=w.heap.size+1+1) (by omega) 7 (.int .i64 x.v.p)) (g:=w.heap.size+1) (by omega) 0 (.bool x.up)) (g:=w.heap.size+1) (by omega) 1 (.int .i64 x.k)) (g:=w.heap.size+1) (by omega) 2 (.bool x.has)) (g:=w.heap.size+1) (by omega) 3 (.int .i64 x.v.r)) (g:=w.heap.size+1) (by omega) 4 (.int .i64 x.v.c)) (g:=w.heap.size+1) (by omega) 5 (.int .i64 x.v.h)) (g:=w.heap.size+1) (by omega) 6 (.int .i64 x.v.b)) (g:=w.heap.size+1) (by omega) 7 (.int .i64 x.v.p));clear fr gr k1 k2;go_wp2;exact bodyPost_ret (v:=.agg #[.bool x.up,.int .i64 x.k,.bool x.has,.int .i64 x.v.r,.int .i64 x.v.c,.int .i64 x.v.h,.int .i64 x.v.b,.int .i64 x.v.p]) (by simp [results,Tryz.results142,go_sem, *]) rfl ⟨rfl,HB.out⟩

theorem zlQ:(Tryz.prog.info? 103).map (fun i=>(i.zero,i.size,i.bytes))=some (some (.agg #[.bool false,.int .i64 0,.bool false,.int .i64 0,.int .i64 0,.int .i64 0,.int .i64 0,.int .i64 0]),8,64):=by kernel_rfl

def PT.zero:PT:=⟨false,0,false,⟨0,0,0,0,0⟩⟩

theorem at8h {w w':World} {b off n cap:Nat} {l:List PT} (h:GRow ptF w (some ⟨b,off,none⟩) n cap l) (hb:Below w.heap.size w w') {i:Nat} {x:PT} (hx:l[i]?=some x) :
  w'.cell? ⟨b,off+i*8,none⟩=some (.bool x.up)∧w'.cell? ⟨b,off+i*8+1,none⟩=some (.int .i64 x.k)∧w'.cell? ⟨b,off+i*8+2,none⟩=some (.bool x.has)∧w'.cell? ⟨b,off+i*8+3,none⟩=some (.int .i64 x.v.r)∧w'.cell? ⟨b,off+i*8+4,none⟩=some (.int .i64 x.v.c)∧w'.cell? ⟨b,off+i*8+5,none⟩=some (.int .i64 x.v.h)∧w'.cell? ⟨b,off+i*8+6,none⟩=some (.int .i64 x.v.b)∧w'.cell? ⟨b,off+i*8+7,none⟩=some (.int .i64 x.v.p):=by
 have hi:i < n:=by
  have:=(List.getElem?_eq_some_iff.1 hx).1
  have:=h.size
  omega
 obtain ⟨y,b',off',hy,e,c⟩:=pt_at (h.below hb) i hi;cases e;rw [hx] at hy;cases hy;exact c

theorem zkf {w:World} {base g n cap:Nat} {pre post:List PT} {x y:PT} (h:w.ownsRow base 103 8 (.slice (some ⟨g,0,none⟩) n cap) n (ptF.all (pre++x::post))) :
  ((((((((w.setCell ⟨g,pre.length*8,none⟩ (.bool y.up)).setCell ⟨g,pre.length*8+1,none⟩ (.int .i64 y.k)).setCell ⟨g,pre.length*8+2,none⟩ (.bool y.has)).setCell ⟨g,pre.length*8+3,none⟩ (.int .i64 y.v.r)).setCell ⟨g,pre.length*8+4,none⟩ (.int .i64 y.v.c)).setCell ⟨g,pre.length*8+5,none⟩ (.int .i64 y.v.h)).setCell ⟨g,pre.length*8+6,none⟩ (.int .i64 y.v.b)).setCell ⟨g,pre.length*8+7,none⟩ (.int .i64 y.v.p)).ownsRow base 103 8 (.slice (some ⟨g,0,none⟩) n cap) n (ptF.all (pre++y::post)):=by
 have R0:=zt (F:=ptF) (x':=⟨y.up,x.k,x.has,⟨x.v.r,x.v.c,x.v.h,x.v.b,x.v.p⟩⟩) h 0 (.bool y.up) (by decide) rfl;have R1:=zt (F:=ptF) (x':=⟨y.up,y.k,x.has,⟨x.v.r,x.v.c,x.v.h,x.v.b,x.v.p⟩⟩) R0 1 (.int .i64 y.k) (by decide) rfl;have R2:=zt (F:=ptF) (x':=⟨y.up,y.k,y.has,⟨x.v.r,x.v.c,x.v.h,x.v.b,x.v.p⟩⟩) R1 2 (.bool y.has) (by decide) rfl;have R3:=zt (F:=ptF) (x':=⟨y.up,y.k,y.has,⟨y.v.r,x.v.c,x.v.h,x.v.b,x.v.p⟩⟩) R2 3 (.int .i64 y.v.r) (by decide) rfl;have R4:=zt (F:=ptF) (x':=⟨y.up,y.k,y.has,⟨y.v.r,y.v.c,x.v.h,x.v.b,x.v.p⟩⟩) R3 4 (.int .i64 y.v.c) (by decide) rfl;have R5:=zt (F:=ptF) (x':=⟨y.up,y.k,y.has,⟨y.v.r,y.v.c,y.v.h,x.v.b,x.v.p⟩⟩) R4 5 (.int .i64 y.v.h) (by decide) rfl;have R6:=zt (F:=ptF) (x':=⟨y.up,y.k,y.has,⟨y.v.r,y.v.c,y.v.h,y.v.b,x.v.p⟩⟩) R5 6 (.int .i64 y.v.b) (by decide) rfl;exact zt (F:=ptF) (x':=y) R6 7 (.int .i64 y.v.p) (by decide) rfl

theorem zcE {w:World} {g:Nat} (j0 j1 j2 j3 j4 j5 j6 j7:Nat) (u0 u1 u2 u3 u4 u5 u6 u7:Value):w.grownBy ((((((((w.setCell ⟨g,j0,none⟩ u0).setCell ⟨g,j1,none⟩ u1).setCell ⟨g,j2,none⟩ u2).setCell ⟨g,j3,none⟩ u3).setCell ⟨g,j4,none⟩ u4).setCell ⟨g,j5,none⟩ u5).setCell ⟨g,j6,none⟩ u6).setCell ⟨g,j7,none⟩ u7) (some g) :=
 zz (zz (zz (zz (zz (zz (zz (zg _ _) (zg _ _)) (zg _ _)) (zg _ _)) (zg _ _)) (zg _ _)) (zg _ _)) (zg _ _)

theorem zcG {w:World} {base g n cap:Nat} {T:TypeId} {l:List PT} (h:w.ownsRow base T 8 (.slice (some ⟨g,0,none⟩) n cap) n (ptF.all l)) {i:Nat} {x:PT} (hx:l[i]?=some x) :
  (w.cell? ⟨g,i*8,none⟩=some (.bool x.up)∧w.cell? ⟨g,i*8+1,none⟩=some (.int .i64 x.k)∧w.cell? ⟨g,i*8+2,none⟩=some (.bool x.has)∧w.cell? ⟨g,i*8+3,none⟩=some (.int .i64 x.v.r)∧w.cell? ⟨g,i*8+4,none⟩=some (.int .i64 x.v.c)∧w.cell? ⟨g,i*8+5,none⟩=some (.int .i64 x.v.h)∧w.cell? ⟨g,i*8+6,none⟩=some (.int .i64 x.v.b)∧w.cell? ⟨g,i*8+7,none⟩=some (.int .i64 x.v.p)) ∧
  (w.frozen? ⟨g,i*8,none⟩=false∧w.frozen? ⟨g,i*8+1,none⟩=false∧w.frozen? ⟨g,i*8+2,none⟩=false∧w.frozen? ⟨g,i*8+3,none⟩=false∧w.frozen? ⟨g,i*8+4,none⟩=false∧w.frozen? ⟨g,i*8+5,none⟩=false∧w.frozen? ⟨g,i*8+6,none⟩=false∧w.frozen? ⟨g,i*8+7,none⟩=false):=by
 have c0:=zH (F:=ptF) h hx (j:=0) (v:=.bool x.up) rfl;have c1:=zH (F:=ptF) h hx (j:=1) (v:=.int .i64 x.k) rfl;have c2:=zH (F:=ptF) h hx (j:=2) (v:=.bool x.has) rfl;have c3:=zH (F:=ptF) h hx (j:=3) (v:=.int .i64 x.v.r) rfl;have c4:=zH (F:=ptF) h hx (j:=4) (v:=.int .i64 x.v.c) rfl;have c5:=zH (F:=ptF) h hx (j:=5) (v:=.int .i64 x.v.h) rfl;have c6:=zH (F:=ptF) h hx (j:=6) (v:=.int .i64 x.v.b) rfl;have c7:=zH (F:=ptF) h hx (j:=7) (v:=.int .i64 x.v.p) rfl;exact ⟨⟨c0.1,c1.1,c2.1,c3.1,c4.1,c5.1,c6.1,c7.1⟩,c0.2,c1.2,c2.2,c3.2,c4.2,c5.2,c6.2,c7.2⟩

theorem zji (ao:Option Addr) (n c:Nat) (l:List PT) (w:World) (hl:GRow ptF w ao n c l) (hs:n≤1048576) :
  Calls Tryz.prog 108 #[.slice ao n c] w fun r w'=>∃ao' cap,r=.returned (.slice ao' n cap)∧w'.ownsRow w.heap.size 103 8 (.slice ao' n cap) n (ptF.all l)∧GRow ptF w' ao' n cap l∧Below w.heap.size w w':=by
 obtain ⟨i0,hi,hz0,hz1,hz2⟩:=zaK zlQ;have s1:=hl.size;go_enter Tryz.func108,Tryz.ntmps108;go_wp2_with (at_make; refine wpList_make_full _ rfl _ _ 57 rfl w.heap.size 103 i0 (.agg #[.bool false,.int .i64 0,.bool false,.int .i64 0,.int .i64 0,.int .i64 0,.int .i64 0,.int .i64 0]) 8 Tryz.underlying57 hi hz0 hz1 .i64 .i64 _ _ n rfl rfl rfl rfl ?c1 ?c2 ?c3 ?_)
 case c1=>rw [hz2]; omega
 case c2=>unfold maxLen; omega
 case c3=>exact Nat.le_refl _
 intro w1 hown hgrow;have hb1:Below w.heap.size w w1:=(Below.refl _ _).grown hgrow (Nat.le_refl _) (by intro k hk; cases hk);have hown1:w1.ownsRow w.heap.size 103 8 (.slice (some ⟨w.heap.size,0,none⟩) n n) n (ptF.all (l.take 0++List.replicate (n - 0) PT.zero)):=by
  rw [List.take_zero,List.nil_append,Nat.sub_zero,← zbQ]; exact hown
 clear hown hgrow hi hz0 hz1 hz2;go_wp2
 go_loopw [4] (fun i wr=>∃k:Nat,k≤n∧i=.int .i64 k∧wr.ownsRow w.heap.size 103 8 (.slice (some ⟨w.heap.size,0,none⟩) n n) n (ptF.all (l.take k++List.replicate (n - k) PT.zero))∧Below w.heap.size w wr) (fun i _=>n - (intOf i).toNat)
 case atStart=>exact ⟨0,Nat.zero_le _,rfl,hown1,hb1⟩
 case round =>
  obtain ⟨k,hk,rfl,ho,hb⟩:=hrel;clear hown1 hb1;by_cases hlt:k < n
  ·obtain ⟨x,b,off,hx,rfl,a0,a1,a2,a3,a4,a5,a6,a7⟩:=pt_at (hl.below hb) k hlt;have hrep:List.replicate (n - k) PT.zero=PT.zero::List.replicate (n - (k+1)) PT.zero:=by rw [← List.replicate_succ]; congr 1; omega
   have hlk:(l.take k).length=k:=by rw [List.length_take]; omega
   rw [hrep] at ho;have htk:l.take (k+1)=l.take k++[x]:=by rw [List.take_add_one,hx]; rfl
   have HTK:=hide htk;have HB:=hide hb;have HO:=hide ho;have HX:=hide hx;clear hb ho htk hx;(go_wp2_with fail);refine (zkt x _).mono ?_;rintro r w2 ⟨rfl,hb2⟩;have ho2:=zi HO.out hb2;have hz:(l.take k++PT.zero::List.replicate (n - (k+1)) PT.zero)[k]?=some PT.zero:=by rw [List.getElem?_append_right (by omega),hlk,Nat.sub_self]; rfl
   obtain ⟨⟨t0,t1,t2,t3,t4,t5,t6,t7⟩,f0,f1,f2,f3,f4,f5,f6,f7⟩:=zcG ho2 hz;have o3:=zkf (y:=x) ho2;rw [hlk] at o3;have HO3:=hide o3;have hb3:=zc HB.out hb2;have HB3:=hide (hb3.grown (zcE (w:=w2) (g:=w.heap.size) (k*8) (k*8+1) (k*8+2) (k*8+3) (k*8+4) (k*8+5) (k*8+6) (k*8+7) (.bool x.up) (.int .i64 x.k) (.bool x.has) (.int .i64 x.v.r) (.int .i64 x.v.c) (.int .i64 x.v.h) (.int .i64 x.v.b) (.int .i64 x.v.p)) hb3.size (by intro j e; cases e; exact Nat.le_refl _));clear ho2 hb2 hb3 o3 hz a0 a1 a2 a3 a4 a5 a6 a7;go_wp2
   go_roundw
   case rel=>exact ⟨k+1,by omega,by go_num,by rw [HTK.out,List.append_assoc]; exact HO3.out,HB3.out⟩
   case measure=>simp [intOf]; omega
  ·have hkn:k=n:=by omega
   subst hkn;rw [Nat.sub_self,List.take_of_length_le (by omega),List.replicate_zero,List.append_nil] at ho;have HO:=hide ho;have HR:=hide (zB ho);have HB:=hide hb;clear ho hb;go_wp2;go_ret;exact ⟨_,_,rfl,HO.out,HR.out,HB.out⟩

theorem zjD (x:PT) (w:World) :
  Calls Tryz.prog 163 #[.agg #[.bool x.up,.int .i64 x.k,.bool x.has,.int .i64 x.v.r,.int .i64 x.v.c,.int .i64 x.v.h,.int .i64 x.v.b,.int .i64 x.v.p],.agg #[.bool x.up,.int .i64 x.k,.bool x.has,.int .i64 x.v.r,.int .i64 x.v.c,.int .i64 x.v.h,.int .i64 x.v.b,.int .i64 x.v.p]] w fun r w'=>r=.returned (.bool true)∧Below w.heap.size w w':=by
 go_enter Tryz.func163,Tryz.ntmps163;go_wp2_with fail
 refine (ze2 x.v.r x.v.c x.v.h x.v.b x.v.p _).mono ?_;rintro e w2 ⟨rfl,hb2⟩;have HB:=hide (zc (zL _ _ _) hb2);clear hb2;go_wp2;go_ret;exact ⟨rfl,HB.out⟩

theorem zkq (ao:Option Addr) (n c:Nat) (left:Int) (w:World) (hl:n≤maxLen) (h0:0≤left) (h1:left≤1048576) :
  Calls Tryz.prog 91 #[.slice ao n c,.int .i64 left] w fun r w'=>r=.returned (.int .i64 (if (n:Int)≤left then left - n else -1))∧w'=w:=by
 unfold maxLen at hl;go_enter Tryz.func91,Tryz.ntmps91;go_wp2
 all_goals go_ret
 all_goals exact ⟨rfl,rfl⟩

theorem ziY (ao:Option Addr) (n c:Nat) (ao':Option Addr) (n' c':Nat) (l:List PT) (w:World) (hl:GRow ptF w ao n c l) (hl':GRow ptF w ao' n' c' l) :
  Calls Tryz.prog 131 #[.slice ao n c,.slice ao' n' c'] w fun r w'=>r=.returned (.bool true)∧Below w.heap.size w w':=by
 have hs:=hl.size;have hs':=hl'.size;have htop:=Nat.le_trans hl.le hl.top;unfold maxLen at htop;have hnn:n'=n:=by omega
 subst hnn;go_enter Tryz.func131,Tryz.ntmps131;go_wp2
 go_loopw [5] (fun i wr=>∃k:Nat,k≤n'∧i=.int .i64 k∧Below w.heap.size w wr) (fun i _=>n' - (intOf i).toNat)
 case atStart=>exact ⟨0,Nat.zero_le _,rfl,Below.refl _ _⟩
 case round =>
  obtain ⟨k,hk,rfl,hb⟩:=hrel;by_cases hlt:k < n'
  ·obtain ⟨x,b,off,hx,rfl,a0,a1,a2,a3,a4,a5,a6,a7⟩:=pt_at (hl.below hb) k hlt;obtain ⟨y,b',off',hy,rfl,e0,e1,e2,e3,e4,e5,e6,e7⟩:=pt_at (hl'.below hb) k hlt;rw [hx] at hy;cases hy;have CX:Hid (∀W,Below wr.heap.size wr W→_∧_):=fun W h=>⟨at8h (hl.below hb) h hx,at8h (hl'.below hb) h hx⟩
   have HB:=hide hb;clear hb;(go_wp2_with fail)
   go_region_held3 (fun W=>(W.cell? ⟨b,off+k*8,none⟩=some (.bool x.up)∧W.cell? ⟨b,off+k*8+1,none⟩=some (.int .i64 x.k)∧W.cell? ⟨b,off+k*8+2,none⟩=some (.bool x.has)∧W.cell? ⟨b,off+k*8+3,none⟩=some (.int .i64 x.v.r)∧W.cell? ⟨b,off+k*8+4,none⟩=some (.int .i64 x.v.c)∧W.cell? ⟨b,off+k*8+5,none⟩=some (.int .i64 x.v.h)∧W.cell? ⟨b,off+k*8+6,none⟩=some (.int .i64 x.v.b)∧W.cell? ⟨b,off+k*8+7,none⟩=some (.int .i64 x.v.p))∧(W.cell? ⟨b',off'+k*8,none⟩=some (.bool x.up)∧W.cell? ⟨b',off'+k*8+1,none⟩=some (.int .i64 x.k)∧W.cell? ⟨b',off'+k*8+2,none⟩=some (.bool x.has)∧W.cell? ⟨b',off'+k*8+3,none⟩=some (.int .i64 x.v.r)∧W.cell? ⟨b',off'+k*8+4,none⟩=some (.int .i64 x.v.c)∧W.cell? ⟨b',off'+k*8+5,none⟩=some (.int .i64 x.v.h)∧W.cell? ⟨b',off'+k*8+6,none⟩=some (.int .i64 x.v.b)∧W.cell? ⟨b',off'+k*8+7,none⟩=some (.int .i64 x.v.p))) (first | exact CX.out _ u1 | go_keep) (first
    | (go_at_call 163; refine (zjD x _).mono ?_; rintro r w1 ⟨rfl,hb1⟩; have u1:Below wr.heap.size wr w1:=undrew hb1))
   have b1:=zc HB.out u1;clear u1 hb1 a0 a1 a2 a3 a4 a5 a6 a7 e0 e1 e2 e3 e4 e5 e6 e7;go_wp2
   go_roundw
   case rel=>exact ⟨k+1,by omega,by go_num,b1⟩
   case measure=>simp [intOf]; omega
  ·have hk':k=n':=by omega
   subst hk';go_wp2;go_ret;exact ⟨rfl,hb⟩

end Go.Proofs.YtpaneiaflfegoaaGreat
