/-
  Packed: NetMem NetFlat VlanBits PtOpen BrOpen NetOpen VecEql PtOkS FdbSpec PtApp PtHelp PtMark VrowHelp MadeSet BrList0 OwnGen ImplIn PtLaws BrLaws PtBest BitPort.
-/
import Derived.Test.YtkaefmfopejbaaaGreatPVKW
import Derived.Test.YtkaefmfopejbaaaGreatPVK02
import Derived.ProofKit
import Derived.OpenShut
import Derived.ShutString
import Derived.ChangeOld
import Derived.Below
import Derived.Deep.CutRange
namespace Go.Proofs.YtkaefmfopejbaaaGreat
set_option maxRecDepth 100000
set_option maxHeartbeats 16000000
open Go.RowKit

structure LK where
 a:Int
 p:Int
 b:Int
 q:Int
 deriving DecidableEq

structure SY where
 l:Int
 back:Bool
 v:VD

def linkF:Flat LK where
 k:=4
 cs:=fun x=>[.int .i64 x.a,.int .i64 x.p,.int .i64 x.b,.int .i64 x.q]
 len:=fun _=>rfl
 pos:=by decide
 one:=fun _ v hv=>by
  simp only [List.mem_cons,List.not_mem_nil,or_false] at hv;rcases hv with rfl | rfl | rfl | rfl <;> rfl

def sayF:Flat SY where
 k:=7
 cs:=fun x=>[.int .i64 x.l,.bool x.back,.int .i64 x.v.r,.int .i64 x.v.c,.int .i64 x.v.h,.int .i64 x.v.b,.int .i64 x.v.p]
 len:=fun _=>rfl
 pos:=by decide
 one:=fun _ v hv=>by
  simp only [List.mem_cons,List.not_mem_nil,or_false] at hv;rcases hv with rfl | rfl | rfl | rfl | rfl | rfl | rfl <;> rfl

theorem zak {w:World} {ao:Option Addr} {len cap:Nat} {l:List LK} (h:GRow linkF w ao len cap l) (i:Nat) (hi:i < len):∃(x:LK) (b off:Nat),l[i]? = some x∧ao=some ⟨b,off,none⟩∧w.cell? ⟨b,off+i*4,none⟩=some (.int .i64 x.a)∧w.cell? ⟨b,off+i*4+1,none⟩=some (.int .i64 x.p)∧w.cell? ⟨b,off+i*4+2,none⟩=some (.int .i64 x.b)∧w.cell? ⟨b,off+i*4+3,none⟩=some (.int .i64 x.q):=by
 obtain ⟨x,b,off,hx,ha,hc⟩:=h.at i hi;exact ⟨x,b,off,hx,ha,hc 0 _ rfl,hc 1 _ rfl,hc 2 _ rfl,hc 3 _ rfl⟩

theorem ziD {w:World} {ao:Option Addr} {len cap:Nat} {l:List SY} (h:GRow sayF w ao len cap l) (i:Nat) (hi:i < len):∃(x:SY) (b off:Nat),l[i]? = some x∧ao=some ⟨b,off,none⟩∧w.cell? ⟨b,off+i*7,none⟩=some (.int .i64 x.l)∧w.cell? ⟨b,off+i*7+1,none⟩=some (.bool x.back)∧w.cell? ⟨b,off+i*7+2,none⟩=some (.int .i64 x.v.r)∧w.cell? ⟨b,off+i*7+3,none⟩=some (.int .i64 x.v.c)∧w.cell? ⟨b,off+i*7+4,none⟩=some (.int .i64 x.v.h)∧w.cell? ⟨b,off+i*7+5,none⟩=some (.int .i64 x.v.b)∧w.cell? ⟨b,off+i*7+6,none⟩=some (.int .i64 x.v.p):=by
 obtain ⟨x,b,off,hx,ha,hc⟩:=h.at i hi;exact ⟨x,b,off,hx,ha,hc 0 _ rfl,hc 1 _ rfl,hc 2 _ rfl,hc 3 _ rfl,hc 4 _ rfl,hc 5 _ rfl,hc 6 _ rfl⟩

theorem zaw:(Tryz.prog.info? 66).map (fun i=>(i.zero,i.size,i.bytes))=some (some (.agg #[.int .i64 0,.int .i64 0,.int .i64 0,.int .i64 0]),linkF.k,32):=by kernel_rfl

theorem zP:(Tryz.prog.info? 99).map (fun i=>(i.zero,i.size,i.bytes))=some (some (.agg #[.int .i64 0,.bool false,.int .i64 0,.int .i64 0,.int .i64 0,.int .i64 0,.int .i64 0]),sayF.k,56):=by kernel_rfl

structure NV where
 ba:Option Addr
 bn:Nat
 bc:Nat
 bs:List BV
 la:Option Addr
 ln:Nat
 lc:Nat
 ls:List LK
 sa:Option Addr
 sn:Nat
 sc:Nat
 ss:List SY

structure zac (w:World) (N:NV):Prop where
 b:GRow brF w N.ba N.bn N.bc N.bs
 item:∀x∈N.bs,x.Reads w
 l:GRow linkF w N.la N.ln N.lc N.ls
 s:GRow sayF w N.sa N.sn N.sc N.ss

theorem zac.below {w w':World} {N:NV} (h:zac w N) (hb:Below w.heap.size w w'):zac w' N :=
 ⟨h.b.below hb,fun x hx=>(h.item x hx).below hb,h.l.below hb,h.s.below hb⟩

def NV.brs (N:NV):List BR:=N.bs.map BV.B

def LK.zero:LK:=⟨0,0,0,0⟩

theorem zdW {w:World} {g:Nat} {T:TypeId} {c0 c1 c2 c3 c4 c5 c6:Value} (h:w.heap[g]? = some (.cells #[c0,c1,c2,c3,c4,c5,c6] T)) :
  w.cell? ⟨g,0,none⟩=some c0∧w.cell? ⟨g,1,none⟩=some c1∧w.cell? ⟨g,2,none⟩=some c2∧w.cell? ⟨g,3,none⟩=some c3∧w.cell? ⟨g,4,none⟩=some c4∧w.cell? ⟨g,5,none⟩=some c5∧w.cell? ⟨g,6,none⟩=some c6:=by
 simp [World.cell?,h]

theorem zaO {w w':World} {b off n cap:Nat} {l:List SY} (h:GRow sayF w (some ⟨b,off,none⟩) n cap l) (hb:Below w.heap.size w w') {i:Nat} {x:SY} (hx:l[i]? = some x) :
  w'.cell? ⟨b,off+i*7,none⟩=some (.int .i64 x.l)∧w'.cell? ⟨b,off+i*7+1,none⟩=some (.bool x.back)∧w'.cell? ⟨b,off+i*7+2,none⟩=some (.int .i64 x.v.r)∧w'.cell? ⟨b,off+i*7+3,none⟩=some (.int .i64 x.v.c)∧w'.cell? ⟨b,off+i*7+4,none⟩=some (.int .i64 x.v.h)∧w'.cell? ⟨b,off+i*7+5,none⟩=some (.int .i64 x.v.b)∧w'.cell? ⟨b,off+i*7+6,none⟩=some (.int .i64 x.v.p):=by
 have hi:i < n:=by
  have:=(List.getElem?_eq_some_iff.1 hx).1
  have:=h.size
  omega
 obtain ⟨y,b',off',hy,e,c⟩:=ziD (h.below hb) i hi;cases e;rw [hx] at hy;cases hy;exact c

def SY.zero:SY:=⟨0,false,⟨0,0,0,0,0⟩⟩

def I64 (x:Int):Prop := -9223372036854775808≤x∧x≤9223372036854775807

def VR.Rng (r:VR):Prop:=I64 r.i∧I64 r.m∧I64 r.b

section
open Go.RowKit

def PT.Rng (x:PT):Prop:=I64 x.k∧I64 x.v.r∧I64 x.v.c∧I64 x.v.h∧I64 x.v.b∧I64 x.v.p

section
open Go.ChangeShapes Go.WideShapes Go.ChangeAt
variable {H:Type} {enc:TypeId × Value→H} {P:Program} {w:World}

end

end

section
open Go.RowKit

structure BR.Rng (b:BR):Prop where
 id:I64 b.id
 name:b.name.size≤maxLen
 ports:∀x∈b.ports,x.Rng
 f:∀x∈b.f,x.Rng
 v:∀x∈b.v.rows,x.Rng
 ticks:I64 b.ticks
 parse:I64 b.parse
 word:I64 b.word
 drops:I64 b.drops
 vers:I64 b.vers

section
open Go.ChangeShapes Go.WideShapes Go.ChangeAt
variable {H:Type} {enc:TypeId × Value→H} {P:Program} {w:World}

end

end

section
open Go.RowKit

def LK.Rng (x:LK):Prop:=I64 x.a∧I64 x.p∧I64 x.b∧I64 x.q
def SY.Rng (x:SY):Prop:=I64 x.l∧I64 x.v.r∧I64 x.v.c∧I64 x.v.h∧I64 x.v.b∧I64 x.v.p

structure NV.Rng (N:NV):Prop where
 b:∀x∈N.bs,x.B.Rng
 l:∀x∈N.ls,x.Rng
 s:∀x∈N.ss,x.Rng

section
open Go.ChangeShapes Go.WideShapes Go.ChangeAt
variable {H:Type} {enc:TypeId × Value→H} {P:Program} {w:World}

def BV.zero:BV:=⟨none,0,0,none,0,0,none,0,0,none,0,0,⟨0,⟨#[]⟩,[],[],⟨[],[]⟩,0,0,0,0,0⟩⟩

end

end

theorem zi4 (R C H B P R' C' H' B' P':Int) (w:World):(binOp .eql 51 (.agg #[.int .i64 R,.int .i64 C,.int .i64 H,.int .i64 B,.int .i64 P]) (.agg #[.int .i64 R',.int .i64 C',.int .i64 H',.int .i64 B',.int .i64 P'])).run Tryz.prog w=.ok (.bool ((R == R') && ((C == C') && ((H == H') && ((B == B') && (P == P')))))) w:=by
 have u3:=Tryz.underlying3;have a3:=Tryz.isAgg3;have z3:=Tryz.sizeOf3;have hS:Tryz.prog.underlying 51=some (.struct (Tryz.prog.fieldsOf 51)):=by kernel_rfl
 have hp:Tryz.prog.stoodInHeld 51=false:=by kernel_rfl
 rw [run_eql_struct,show (10000:Nat)=9999+1 from rfl,run_equalIn_agg w 9999 51 _ _ hS hp];simp only [Program.fieldsOf,Tryz.underlying51];go_simp;by_cases h1:R=R' <;> by_cases h2:C=C' <;> by_cases h3:H=H' <;> by_cases h4:B=B' <;> by_cases h5:P=P' <;> simp [h1,h2,h3,h4,h5]

theorem zje {w:World} {g:Nat} {T:TypeId} {c0 c1 c2 c3 c4 c5 c6 c7:Value} (h:w.heap[g]? = some (.cells #[c0,c1,c2,c3,c4,c5,c6,c7] T)) :
  w.cell? ⟨g,0,none⟩=some c0∧w.cell? ⟨g,1,none⟩=some c1∧w.cell? ⟨g,2,none⟩=some c2∧w.cell? ⟨g,3,none⟩=some c3∧w.cell? ⟨g,4,none⟩=some c4∧w.cell? ⟨g,5,none⟩=some c5∧w.cell? ⟨g,6,none⟩=some c6∧w.cell? ⟨g,7,none⟩=some c7:=by
 simp [World.cell?,h]

theorem zcZ (x:PT) (w:World) :
  Calls Tryz.prog 137 #[.agg #[.bool x.up,.int .i64 x.k,.bool x.has,.int .i64 x.v.r,.int .i64 x.v.c,.int .i64 x.v.h,.int .i64 x.v.b,.int .i64 x.v.p]] w fun e w'=>e=.returned (.bool (ptOk x))∧Below w.heap.size w w':=by
 have he:∀W,(binOp .eql 51 (.agg #[.int .i64 x.v.r,.int .i64 x.v.c,.int .i64 x.v.h,.int .i64 x.v.b,.int .i64 x.v.p]) (.agg #[.int .i64 0,.int .i64 0,.int .i64 0,.int .i64 0,.int .i64 0])).run Tryz.prog W=.ok (.bool (zfc x.v)) W:=fun W=>by rw [zi4]; rfl
 have hgd:Tryz.prog.eqGuardType Tryz.prog.depth 51=false:=by kernel_rfl
 obtain ⟨up,k,has,⟨r,c,h,b,p⟩⟩:=x
 simp only at he ⊢
 generalize hw1:w.alloc (.cells #[.bool up,.int .i64 k,.bool has,.int .i64 r,.int .i64 c,.int .i64 h,.int .i64 b,.int .i64 p] 53)=w1;have q0:=zb hw1;obtain ⟨c0,c1,c2,c3,c4,c5,c6,c7⟩:=zje (by rw [← hw1]; exact zT w _:w1.heap[w.heap.size]? = _);cases t1:(decide (1≤k) && decide (k≤1000))
 ·have T1:=hide t1;rw [show ptOk ⟨up,k,has,⟨r,c,h,b,p⟩⟩=false by unfold ptOk; rw [t1]; rfl];clear t1;go_enter Tryz.func137,Tryz.ntmps137;(go_wp2_with fail);refine (zf k 1 1000 _).mono ?_;rintro e w2 ⟨rfl,rfl⟩;rw [T1.out];go_wp2;go_ret;exact ⟨rfl,q0⟩
 cases has
 ·rw [show ptOk ⟨up,k,false,⟨r,c,h,b,p⟩⟩=zfc ⟨r,c,h,b,p⟩ by unfold ptOk; rw [t1]; cases up <;> rfl];have T1:=hide t1;generalize zfc ⟨r,c,h,b,p⟩=Q at *;clear t1;cases up <;>
  ·go_enter Tryz.func137,Tryz.ntmps137;(go_wp2_with fail);refine (zf k 1 1000 _).mono ?_;rintro e w2 ⟨rfl,rfl⟩;rw [T1.out];go_wp2;go_ret;exact ⟨rfl,q0⟩
 cases up
 ·rw [show ptOk ⟨false,k,true,⟨r,c,h,b,p⟩⟩=false by unfold ptOk; rw [t1]; rfl];have T1:=hide t1;clear t1;go_enter Tryz.func137,Tryz.ntmps137;(go_wp2_with fail);refine (zf k 1 1000 _).mono ?_;rintro e w2 ⟨rfl,rfl⟩;rw [T1.out];go_wp2;go_ret;exact ⟨rfl,q0⟩
 ·rw [show ptOk ⟨true,k,true,⟨r,c,h,b,p⟩⟩=okVc r c h b p by unfold ptOk; rw [t1]; rfl];have T1:=hide t1;clear t1;go_enter Tryz.func137,Tryz.ntmps137;(go_wp2_with fail);refine (zf k 1 1000 _).mono ?_;rintro e w2 ⟨rfl,rfl⟩;rw [T1.out];(go_wp2_with fail);refine (zab r c h b p _).mono ?_;rintro e w3 ⟨rfl,hb3⟩;have HB:=hide (zc q0 hb3);clear hb3;go_wp2;go_ret;exact ⟨rfl,HB.out⟩

theorem zbE (e:FE) (w:World) :
  Calls Tryz.prog 164 #[.agg #[.int .i64 e.t,.int .i64 e.m,.int .i64 e.p,.int .i64 e.a,.bool e.s]] w fun r w'=>r=.returned (.bool (entOk e))∧Below w.heap.size w w':=by
 generalize hP:entOk e=Q;unfold entOk at hP;cases t1:(decide (1≤e.t) && decide (e.t≤99))
 ·have h:Q=false:=by rw [← hP,t1]; rfl
  subst h;have T1:=hide t1;clear hP t1;go_enter Tryz.func164,Tryz.ntmps164;(go_wp2_with fail);refine (zf e.t 1 99 _).mono ?_;rintro r w1 ⟨rfl,rfl⟩;rw [T1.out];go_wp2;go_ret;exact ⟨rfl,zn _ _⟩
 cases t2:(decide (1≤e.m) && decide (e.m≤9999))
 ·have h:Q=false:=by rw [← hP,t1,t2]; rfl
  subst h;have T1:=hide t1;have T2:=hide t2;clear hP t1 t2;go_enter Tryz.func164,Tryz.ntmps164;(go_wp2_with fail);refine (zf e.t 1 99 _).mono ?_;rintro r w1 ⟨rfl,rfl⟩;rw [T1.out];(go_wp2_with fail);refine (zf e.m 1 9999 _).mono ?_;rintro r w2 ⟨rfl,rfl⟩;rw [T2.out];go_wp2;go_ret;exact ⟨rfl,zn _ _⟩
 cases t3:(decide (0≤e.p) && decide (e.p≤7))
 ·have h:Q=false:=by rw [← hP,t1,t2,t3]; rfl
  subst h;have T1:=hide t1;have T2:=hide t2;have T3:=hide t3;clear hP t1 t2 t3;go_enter Tryz.func164,Tryz.ntmps164;(go_wp2_with fail);refine (zf e.t 1 99 _).mono ?_;rintro r w1 ⟨rfl,rfl⟩;rw [T1.out];(go_wp2_with fail);refine (zf e.m 1 9999 _).mono ?_;rintro r w2 ⟨rfl,rfl⟩;rw [T2.out];(go_wp2_with fail);refine (zf e.p 0 7 _).mono ?_;rintro r w3 ⟨rfl,rfl⟩;rw [T3.out];go_wp2;go_ret;exact ⟨rfl,zn _ _⟩
 cases t4:(decide (0≤e.a) && decide (e.a≤4))
 ·have h:Q=false:=by rw [← hP,t1,t2,t3,t4]; rfl
  subst h;have T1:=hide t1;have T2:=hide t2;have T3:=hide t3;have T4:=hide t4;clear hP t1 t2 t3 t4;go_enter Tryz.func164,Tryz.ntmps164;(go_wp2_with fail);refine (zf e.t 1 99 _).mono ?_;rintro r w1 ⟨rfl,rfl⟩;rw [T1.out];(go_wp2_with fail);refine (zf e.m 1 9999 _).mono ?_;rintro r w2 ⟨rfl,rfl⟩;rw [T2.out];(go_wp2_with fail);refine (zf e.p 0 7 _).mono ?_;rintro r w3 ⟨rfl,rfl⟩;rw [T3.out];(go_wp2_with fail);refine (zf e.a 0 4 _).mono ?_;rintro r w4 ⟨rfl,rfl⟩;rw [T4.out];go_wp2;go_ret;exact ⟨rfl,zn _ _⟩
 rw [t1,t2,t3,t4,Bool.true_and,Bool.true_and,Bool.true_and,Bool.true_and] at hP;have T1:=hide t1;have T2:=hide t2;have T3:=hide t3;have T4:=hide t4;clear t1 t2 t3 t4;cases hs:e.s
 ·rw [hs] at hP;have h:Q=true:=by rw [← hP]; rfl
  subst h;clear hP;go_enter Tryz.func164,Tryz.ntmps164;(go_wp2_with fail);refine (zf e.t 1 99 _).mono ?_;rintro r w1 ⟨rfl,rfl⟩;rw [T1.out];(go_wp2_with fail);refine (zf e.m 1 9999 _).mono ?_;rintro r w2 ⟨rfl,rfl⟩;rw [T2.out];(go_wp2_with fail);refine (zf e.p 0 7 _).mono ?_;rintro r w3 ⟨rfl,rfl⟩;rw [T3.out];(go_wp2_with fail);refine (zf e.a 0 4 _).mono ?_;rintro r w4 ⟨rfl,rfl⟩;rw [T4.out];go_wp2;go_ret;exact ⟨rfl,zn _ _⟩
 ·rw [hs,Bool.not_true,Bool.false_or] at hP;have HP:=hide hP;clear hP;go_enter Tryz.func164,Tryz.ntmps164;(go_wp2_with fail);refine (zf e.t 1 99 _).mono ?_;rintro r w1 ⟨rfl,rfl⟩;rw [T1.out];(go_wp2_with fail);refine (zf e.m 1 9999 _).mono ?_;rintro r w2 ⟨rfl,rfl⟩;rw [T2.out];(go_wp2_with fail);refine (zf e.p 0 7 _).mono ?_;rintro r w3 ⟨rfl,rfl⟩;rw [T3.out];(go_wp2_with fail);refine (zf e.a 0 4 _).mono ?_;rintro r w4 ⟨rfl,rfl⟩;rw [T4.out];go_wp2;go_ret;exact ⟨zai HP.out,zn _ _⟩

theorem zcA (e:FE) (t m:Int) (w:World) :
  Calls Tryz.prog 165 #[.agg #[.int .i64 e.t,.int .i64 e.m,.int .i64 e.p,.int .i64 e.a,.bool e.s],.int .i64 t,.int .i64 m] w fun r w'=>r=.returned (.bool (ahead e t m))∧Below w.heap.size w w':=by
 unfold ahead;cases t1:(e.t != t)
 ·rw [if_neg Bool.false_ne_true];go_enter Tryz.func165,Tryz.ntmps165;go_wp2;go_ret;exact ⟨rfl,zn _ _⟩
 ·rw [if_pos rfl];go_enter Tryz.func165,Tryz.ntmps165;go_wp2;go_ret;exact ⟨rfl,zn _ _⟩

def okTo (l:List FE) (k:Nat):Prop:=∀i x,i < k→l[i]? = some x→entOk x=true∧∀y,0 < i→l[i - 1]? = some y→ahead y x.t x.m=true

theorem zcQ:∀(l:List FE),rises l=true↔okTo l l.length
 | []=>by simp [rises,okTo]
 | [e]=>by
  simp only [rises,okTo,List.length_singleton]
  constructor
  ·intro h i x hi hx;have h0:i=0:=by omega
   subst h0
   simp at hx
   subst hx;exact ⟨h,fun y hy=>by omega⟩
  ·intro h;exact (h 0 e (by omega) rfl).1
 | e::f::r=>by
  have ih:=zcQ (f::r);unfold rises;simp only [Bool.and_eq_true,ih]
  constructor
  ·rintro ⟨h1,h2,h3⟩ i x hi hx
   match i,hx with
   | 0,hx =>
    simp at hx
    subst hx;exact ⟨h1,fun y hy=>by omega⟩
   | 1,hx =>
    simp at hx
    subst hx;refine ⟨(h3 0 f (by simp) rfl).1,fun y _ hy => ?_⟩
    simp at hy
    subst hy;exact h2
   | i+2,hx =>
    obtain ⟨a1,a2⟩:=h3 (i+1) x (by simp at hi ⊢; omega) (by simpa using hx);exact ⟨a1,fun y _ hy=>a2 y (by omega) (by simpa using hy)⟩
  ·intro h;refine ⟨(h 0 e (by simp) rfl).1,(h 1 f (by simp) rfl).2 e (by omega) rfl,fun i x hi hx => ?_⟩;obtain ⟨a1,a2⟩:=h (i+1) x (by simp at hi ⊢; omega) (by simpa using hx);refine ⟨a1,fun y hy hz=>a2 y (by omega) ?_⟩;obtain ⟨j,rfl⟩:∃j,i=j+1:=⟨i - 1,by omega⟩
   simpa using hz

theorem zeV {l:List FE} {k:Nat} {x:FE} (h:okTo l k) (hx:l[k]? = some x) (h1:entOk x=true) (h2:∀y,0 < k→l[k - 1]? = some y→ahead y x.t x.m=true):okTo l (k+1):=by
 intro i z hi hz;by_cases e:i=k
 ·subst e;rw [hx] at hz;cases hz;exact ⟨h1,h2⟩
 ·exact h i z (by omega) hz

theorem zeK {l:List FE} (h:¬okTo l l.length):fdbOk l=false:=by
 unfold fdbOk
 have:rises l=false:=by
  cases hr:rises l
  ·rfl
  ·exact absurd ((zcQ l).1 hr) h
 rw [this]
 rfl

theorem zg5 {l:List FE} (h:okTo l l.length):fdbOk l=decide ((l.length:Int)≤12):=by
 unfold fdbOk;rw [(zcQ l).2 h]
 rfl

theorem zjs:(Tryz.prog.info? 53).map (fun i=>(i.zero,i.size,i.bytes))=some (some (.agg #[.bool false,.int .i64 0,.bool false,.int .i64 0,.int .i64 0,.int .i64 0,.int .i64 0,.int .i64 0]),ptF.k,64):=by kernel_rfl

theorem zeX (w:World) {ops:Array Oper} {rest:List Oper} {o:Oper} {a:Act} {Q:Exit→Act→World→Prop} (hgd:o.guard=none)
  (s x:Operand) (ho:o.op=Op.call { callee:=Callee.builtin Builtin.append,args:=#[s,x],argTypes:=#[38,38] }) (base:Nat)
  (v:Value) (n:Nat) (xs:List PT) (hs:a.eval s=v) (hown:w.ownsRow base 53 8 v n (ptF.all xs)) (ao:Option Addr) (m c:Nat) (zs:List PT)
  (hx:a.eval x=.slice ao m c) (hrow:GRow ptF w ao m c zs) (hsm:n+m≤137438953472) (hbase:base≤w.heap.size)
  (h:∀ao' cap' w',w'.ownsRow base 53 8 (.slice ao' (n+m) cap') (n+m) (ptF.all (xs++zs))→GRow ptF w' ao' (n+m) cap' (xs++zs)→w.grownBy w' v.ownBlock→Below base w w'→wpList Tryz.prog ops Q rest (a.put o.dst (.slice ao' (n+m) cap')) w') :
  wpList Tryz.prog ops Q (o::rest) a w :=
 zS (F:=ptF) w hgd s x 38 53 ho base Tryz.underlying38 zjs rfl (by decide) v n xs hs hown ao m c zs hx hrow hsm hbase h

theorem zg {w:World} {g:Nat} {T:TypeId} {cs:Array Value} (h:w.heap[g]? = some (.cells cs T)) (j:Nat):w.frozen? ⟨g,j,none⟩=false:=by
 simp [World.frozen?,h]

def PT.zero:PT:=⟨false,0,false,⟨0,0,0,0,0⟩⟩

theorem zjt {w:World} {base g n cap:Nat} {pre post:List PT} {x y:PT} (h:w.ownsRow base 53 8 (.slice (some ⟨g,0,none⟩) n cap) n (ptF.all (pre++x::post))) :
  ((((((((w.setCell ⟨g,pre.length*8,none⟩ (.bool y.up)).setCell ⟨g,pre.length*8+1,none⟩ (.int .i64 y.k)).setCell ⟨g,pre.length*8+2,none⟩ (.bool y.has)).setCell ⟨g,pre.length*8+3,none⟩ (.int .i64 y.v.r)).setCell ⟨g,pre.length*8+4,none⟩ (.int .i64 y.v.c)).setCell ⟨g,pre.length*8+5,none⟩ (.int .i64 y.v.h)).setCell ⟨g,pre.length*8+6,none⟩ (.int .i64 y.v.b)).setCell ⟨g,pre.length*8+7,none⟩ (.int .i64 y.v.p)).ownsRow base 53 8 (.slice (some ⟨g,0,none⟩) n cap) n (ptF.all (pre++y::post)):=by
 have R0:=zF (F:=ptF) (x':=⟨y.up,x.k,x.has,⟨x.v.r,x.v.c,x.v.h,x.v.b,x.v.p⟩⟩) h 0 (.bool y.up) (by decide) rfl;have R1:=zF (F:=ptF) (x':=⟨y.up,y.k,x.has,⟨x.v.r,x.v.c,x.v.h,x.v.b,x.v.p⟩⟩) R0 1 (.int .i64 y.k) (by decide) rfl;have R2:=zF (F:=ptF) (x':=⟨y.up,y.k,y.has,⟨x.v.r,x.v.c,x.v.h,x.v.b,x.v.p⟩⟩) R1 2 (.bool y.has) (by decide) rfl;have R3:=zF (F:=ptF) (x':=⟨y.up,y.k,y.has,⟨y.v.r,x.v.c,x.v.h,x.v.b,x.v.p⟩⟩) R2 3 (.int .i64 y.v.r) (by decide) rfl;have R4:=zF (F:=ptF) (x':=⟨y.up,y.k,y.has,⟨y.v.r,y.v.c,x.v.h,x.v.b,x.v.p⟩⟩) R3 4 (.int .i64 y.v.c) (by decide) rfl;have R5:=zF (F:=ptF) (x':=⟨y.up,y.k,y.has,⟨y.v.r,y.v.c,y.v.h,x.v.b,x.v.p⟩⟩) R4 5 (.int .i64 y.v.h) (by decide) rfl;have R6:=zF (F:=ptF) (x':=⟨y.up,y.k,y.has,⟨y.v.r,y.v.c,y.v.h,y.v.b,x.v.p⟩⟩) R5 6 (.int .i64 y.v.b) (by decide) rfl;exact zF (F:=ptF) (x':=y) R6 7 (.int .i64 y.v.p) (by decide) rfl

theorem zgu {w:World} {g:Nat} (j0 j1 j2 j3 j4 j5 j6 j7:Nat) (u0 u1 u2 u3 u4 u5 u6 u7:Value):w.grownBy ((((((((w.setCell ⟨g,j0,none⟩ u0).setCell ⟨g,j1,none⟩ u1).setCell ⟨g,j2,none⟩ u2).setCell ⟨g,j3,none⟩ u3).setCell ⟨g,j4,none⟩ u4).setCell ⟨g,j5,none⟩ u5).setCell ⟨g,j6,none⟩ u6).setCell ⟨g,j7,none⟩ u7) (some g) :=
 zL (zL (zL (zL (zL (zL (zL (zj _ _) (zj _ _)) (zj _ _)) (zj _ _)) (zj _ _)) (zj _ _)) (zj _ _)) (zj _ _)

theorem zgd {w:World} {base g n cap:Nat} {T:TypeId} {l:List PT} (h:w.ownsRow base T 8 (.slice (some ⟨g,0,none⟩) n cap) n (ptF.all l)) {i:Nat} {x:PT} (hx:l[i]? = some x) :
  (w.cell? ⟨g,i*8,none⟩=some (.bool x.up)∧w.cell? ⟨g,i*8+1,none⟩=some (.int .i64 x.k)∧w.cell? ⟨g,i*8+2,none⟩=some (.bool x.has)∧w.cell? ⟨g,i*8+3,none⟩=some (.int .i64 x.v.r)∧w.cell? ⟨g,i*8+4,none⟩=some (.int .i64 x.v.c)∧w.cell? ⟨g,i*8+5,none⟩=some (.int .i64 x.v.h)∧w.cell? ⟨g,i*8+6,none⟩=some (.int .i64 x.v.b)∧w.cell? ⟨g,i*8+7,none⟩=some (.int .i64 x.v.p)) ∧
  (w.frozen? ⟨g,i*8,none⟩=false∧w.frozen? ⟨g,i*8+1,none⟩=false∧w.frozen? ⟨g,i*8+2,none⟩=false∧w.frozen? ⟨g,i*8+3,none⟩=false∧w.frozen? ⟨g,i*8+4,none⟩=false∧w.frozen? ⟨g,i*8+5,none⟩=false∧w.frozen? ⟨g,i*8+6,none⟩=false∧w.frozen? ⟨g,i*8+7,none⟩=false):=by
 have c0:=zU (F:=ptF) h hx (j:=0) (v:=.bool x.up) rfl;have c1:=zU (F:=ptF) h hx (j:=1) (v:=.int .i64 x.k) rfl;have c2:=zU (F:=ptF) h hx (j:=2) (v:=.bool x.has) rfl;have c3:=zU (F:=ptF) h hx (j:=3) (v:=.int .i64 x.v.r) rfl;have c4:=zU (F:=ptF) h hx (j:=4) (v:=.int .i64 x.v.c) rfl;have c5:=zU (F:=ptF) h hx (j:=5) (v:=.int .i64 x.v.h) rfl;have c6:=zU (F:=ptF) h hx (j:=6) (v:=.int .i64 x.v.b) rfl;have c7:=zU (F:=ptF) h hx (j:=7) (v:=.int .i64 x.v.p) rfl;exact ⟨⟨c0.1,c1.1,c2.1,c3.1,c4.1,c5.1,c6.1,c7.1⟩,c0.2,c1.2,c2.2,c3.2,c4.2,c5.2,c6.2,c7.2⟩

def markP (k:Int):PT:=⟨(k) % 3 == 0,k+1,(k+1+1) % 3 == 0,⟨k+1+1+1,k+1+1+1+1,k+1+1+1+1+1,k+1+1+1+1+1+1,k+1+1+1+1+1+1+1⟩⟩
def zjm (k:Int) (n:Nat):List PT:=(List.range n).map fun (i:Nat)=>markP (k+8*i)

def VR.zero:VR:=⟨0,0,0⟩

def markR (k:Int):VR:=⟨k,k+1,k+1+1⟩
def zjn (k:Int) (n:Nat):List VR:=(List.range n).map fun (i:Nat)=>markR (k+3*i)

theorem zeR {W:World} {X:Nat} {c0 c1 c2 c3 c4:Value} {T:TypeId} {K:World→Prop} (hk:W.heap[X]? = some (.cells #[c0,c1,c2,c3,c4] T)) (v0 v1 v2 v3 v4:Value) (h:∀wq,wq.heap[X]? = some (.cells #[v0,v1,v2,v3,v4] T)→W.grownBy wq (some X)→K wq):K (((((W.setCell ⟨X,0,none⟩ v0).setCell ⟨X,1,none⟩ v1).setCell ⟨X,2,none⟩ v2).setCell ⟨X,3,none⟩ v3).setCell ⟨X,4,none⟩ v4):=by
 refine h _ ?_ (zL (zL (zL (zL (zj 0 _) (zj 1 _)) (zj 2 _)) (zj 3 _)) (zj 4 _));have h0:=zD (j:=0) hk v0;have h1:=zD (j:=1) h0 v1;have h2:=zD (j:=2) h1 v2;have h3:=zD (j:=3) h2 v3;have h4:=zD (j:=4) h3 v4
 simpa using h4

theorem zhi {W:World} {X:Nat} {c0 c1 c2 c3 c4 c5 c6:Value} {T:TypeId} {K:World→Prop} (hk:W.heap[X]? = some (.cells #[c0,c1,c2,c3,c4,c5,c6] T)) (v0 v1 v2 v3 v4 v5 v6:Value) (h:∀wq,wq.heap[X]? = some (.cells #[v0,v1,v2,v3,v4,v5,v6] T)→W.grownBy wq (some X)→K wq):K (((((((W.setCell ⟨X,0,none⟩ v0).setCell ⟨X,1,none⟩ v1).setCell ⟨X,2,none⟩ v2).setCell ⟨X,3,none⟩ v3).setCell ⟨X,4,none⟩ v4).setCell ⟨X,5,none⟩ v5).setCell ⟨X,6,none⟩ v6):=by
 refine h _ ?_ (zL (zL (zL (zL (zL (zL (zj 0 _) (zj 1 _)) (zj 2 _)) (zj 3 _)) (zj 4 _)) (zj 5 _)) (zj 6 _));have h6:=zD (j:=6) (zD (j:=5) (zD (j:=4) (zD (j:=3) (zD (j:=2) (zD (j:=1) (zD (j:=0) hk v0) v1) v2) v3) v4) v5) v6
 simpa using h6

theorem zI {W:World} {X:Nat} {c0 c1:Value} {T:TypeId} {K:World→Prop} (hk:W.heap[X]? = some (.cells #[c0,c1] T)) (v0 v1:Value) (h:∀wq,wq.heap[X]? = some (.cells #[v0,v1] T)→W.grownBy wq (some X)→K wq):K ((W.setCell ⟨X,0,none⟩ v0).setCell ⟨X,1,none⟩ v1):=by
 refine h _ ?_ (zL (zj 0 _) (zj 1 _));have h1:=zD (j:=1) (zD (j:=0) hk v0) v1
 simpa using h1

theorem zaC {α:Type} (F:Flat α) {w:World} {g base:Nat} {l:List α} {cs:Array Value} {T:TypeId} (h:w.heap[g]? = some (.cells cs T)) (hc:cs.toList=F.all l) (hb:base≤g) (hm:l.length≤1000):w.ownsRow base T F.k (.slice (some ⟨g,0,none⟩) l.length l.length) l.length (F.all l):=by
 have hl:cs.toList.length=l.length*F.k:=by rw [hc,F.all_length]
 refine ⟨by rw [F.all_length],.inr ⟨g,l.length,cs,rfl,hb,h,Nat.le_refl _,by unfold maxLen; omega, ?_, ?_⟩⟩
 ·simpa using hl
 ·rw [← hc,← hl,List.take_length]

def blkL (ao:Option Addr):List Nat:=match ao with | some a=>[a.block] | none=>[]

theorem zV {ao:Option Addr} {n c b:Nat}:(Value.slice ao n c).ownBlock=some b↔b∈blkL ao:=by
 cases ao <;> simp [Value.ownBlock,blkL,eq_comm]

structure Only (bs:List Nat) (w w':World):Prop where
 os:w'.os=w.os
 tape:w'.tape=w.tape
 output:w'.output=w.output
 size:w.heap.size≤w'.heap.size
 block:∀k,k < w.heap.size→k∉bs→w'.heap[k]? = w.heap[k]?

theorem Only.refl (bs:List Nat) (w:World):Only bs w w:=⟨rfl,rfl,rfl,Nat.le_refl _,fun _ _ _=>rfl⟩
theorem Only.trans {bs:List Nat} {a b c:World} (h:Only bs a b) (k:Only bs b c):Only bs a c :=
 ⟨k.os.trans h.os,k.tape.trans h.tape,k.output.trans h.output,Nat.le_trans h.size k.size,fun i hi hn=>(k.block i (Nat.lt_of_lt_of_le hi h.size) hn).trans (h.block i hi hn)⟩
theorem Only.wider {bs cs:List Nat} {a b:World} (h:Only bs a b) (hs:∀x∈bs,x∈cs):Only cs a b :=
 ⟨h.os,h.tape,h.output,h.size,fun k hk hn=>h.block k hk (fun hb=>hn (hs k hb))⟩
theorem Only.of_below {bs:List Nat} {a b:World} (h:Below a.heap.size a b):Only bs a b:=⟨h.os,h.tape,h.output,h.size,fun k hk _=>h.block k hk⟩
theorem Only.of_grown {ao:Option Addr} {n c:Nat} {a b:World} (h:a.grownBy b (Value.slice ao n c).ownBlock):Only (blkL ao) a b :=
 ⟨h.os,h.tape,h.output,h.size,fun k hk hn=>h.block k hk (fun e=>hn (zV.1 e.symm))⟩
theorem Only.set (w:World) (g j:Nat) (u:Value):Only [g] w (w.setCell ⟨g,j,none⟩ u) :=
 ⟨rfl,rfl,rfl,by simp,fun k _ hn=>Below.heap_setCell _ _ _ _ (by intro e; exact hn (by simp [e]))⟩
theorem Only.below {bs:List Nat} {w w':World} (h:Only bs w w') {B:Nat} (hB:B≤w.heap.size) (hs:∀b∈bs,B≤b):Below B w w' :=
 ⟨h.os,h.tape,h.output,h.size,fun k hk=>h.block k (by omega) (fun hb=>by have:=hs k hb; omega)⟩
theorem Only.kept {bs:List Nat} {w w':World} (h:Only bs w w') {i:Nat} {o:Obj} (hi:w.heap[i]? = some o) (hn:i∉bs):w'.heap[i]? = some o:=by
 rw [h.block i (Array.getElem?_eq_some_iff.1 hi).1 hn]; exact hi
theorem Only.own {bs:List Nat} {w w':World} {base:Nat} {e:TypeId} {size:Nat} {v:Value} {n:Nat} {xs:List Value} (h:Only bs w w') (ho:w.ownsRow base e size v n xs) (hn:∀k,v.ownBlock=some k→k∉bs):w'.ownsRow base e size v n xs:=by
 obtain ⟨hl,h0 | ⟨g,cap,cur,rfl,hg,hh,r⟩⟩:=ho
 ·exact ⟨hl,.inl h0⟩
 ·exact ⟨hl,.inr ⟨g,cap,cur,rfl,hg,h.kept hh (hn g rfl),r⟩⟩

theorem zgH {w w':World} {base:Nat} {e:TypeId} {size:Nat} {v:Value} {n:Nat} {xs:List Value} (h:w.ownsRow base e size v n xs) (hb:Below w.heap.size w w'):w'.ownsRow base e size v n xs :=
 (Only.of_below (bs:=[]) hb).own h (by intro k _ hk; cases hk)
theorem ziY {w:World} {base:Nat} {e:TypeId} {size:Nat} {v:Value} {n:Nat} {xs:List Value} (h:w.ownsRow base e size v n xs) {base':Nat} (hle:base'≤base):w.ownsRow base' e size v n xs:=by
 obtain ⟨hl,h | ⟨g,cap,cur,rfl,hg,r⟩⟩:=h
 ·exact ⟨hl,.inl h⟩
 ·exact ⟨hl,.inr ⟨g,cap,cur,rfl,by omega,r⟩⟩

theorem zbm {w:World} {base base':Nat} {e e':TypeId} {s s':Nat} {v v':Value} {n n':Nat} {xs xs':List Value} (h:w.ownsRow base e s v n xs) (h':w.ownsRow base' e' s' v' n' xs') (hne:e≠e') {k:Nat} (hk:v.ownBlock=some k):v'.ownBlock≠some k:=by
 intro hk';rcases h.2 with ⟨rfl,_⟩ | ⟨g,cap,cur,rfl,_,hh,_⟩
 ·cases hk
 ·rcases h'.2 with ⟨rfl,_⟩ | ⟨g',cap',cur',rfl,_,hh',_⟩
  ·cases hk'
  ·simp only [Value.ownBlock,Option.some.injEq] at hk hk';subst hk hk';rw [hh] at hh';cases hh';exact hne rfl

theorem zap (n lo hi:Int) (w:World):Calls Tryz.prog 51 #[.int .i64 n,.int .i64 lo,.int .i64 hi] w fun e w'=>e=.returned (.bool (decide (lo≤n) && decide (n≤hi)))∧w'=w:=by
 by_cases h1:lo≤n
 ·by_cases h2:n≤hi
  ·rw [decide_eq_true h1,decide_eq_true h2];go_enter Tryz.func51,Tryz.ntmps51;go_wp2;go_ret;exact ⟨rfl,rfl⟩
  ·rw [decide_eq_true h1,decide_eq_false h2];go_enter Tryz.func51,Tryz.ntmps51;go_wp2;go_ret;exact ⟨rfl,rfl⟩
 ·rw [decide_eq_false h1,Bool.false_and];go_enter Tryz.func51,Tryz.ntmps51;go_wp2;go_ret;exact ⟨rfl,rfl⟩

theorem zef {id:Int} {l:List PT}:∀{k:Nat} {f:VD} {j:Nat},zbe id l k=some (f,j)→∃x,l[j]? = some x∧offers id x=true∧f=stepV x.v x.k
 | 0,f,j,h=>by simp [zbe] at h
 | k+1,f,j,h=>by
  rw [zbe] at h;cases hx:l[k]? with
  | none=>rw [hx] at h; exact zef (k:=k) h
  | some x =>
   rw [hx] at h;simp only [zbd] at h;by_cases ho:offers id x=true
   ·rw [if_pos ho] at h;cases hs:zbe id l k with
    | none =>
     rw [hs] at h
     simp at h
     obtain ⟨rfl,rfl⟩:=h;exact ⟨x,hx,ho,rfl⟩
    | some s =>
     obtain ⟨g,i⟩:=s;rw [hs] at h
     simp only at h
     split at h
     ·simp at h
      obtain ⟨rfl,rfl⟩:=h;exact ⟨x,hx,ho,rfl⟩
     ·simp at h
      obtain ⟨rfl,rfl⟩:=h;exact zef hs
   ·rw [if_neg ho] at h;exact zef h

theorem zeU {id:Int} {x:PT} (h:offers id x=true):x.up=true∧x.has=true∧ze5 x.v x.k=true∧x.v.r < id:=by
 unfold offers at h;simp only [Bool.and_eq_true,decide_eq_true_eq] at h;exact h

theorem zih {id:Int} {l:List PT} (port:Int):1≤za1 id l port∧za1 id l port≤4:=by
 unfold za1
 split
 ·split
  ·unfold zd7
   repeat' split
   all_goals omega
  ·omega
 ·omega

def six (b0 b1 b2 b3 b4 b5:Bool):Nat→Bool
 | 0=>b0
 | 1=>b1
 | 2=>b2
 | 3=>b3
 | 4=>b4
 | _=>b5

def zar (n:Int):Int:=if n≥1000000 then n else n+1

def zaj (bits:Int) (l:List FE):Nat→List FE
 | 0=>l
 | k+1=>if bitOf bits (k:Int)=true then zaj bits l k else zah (zaj bits l k) (k:Int)

def turned (b:BR):BR:={ b with vers:=zar b.vers,f:=zaj (zdz b.id b.ports) b.f b.ports.length }

def zaS (b:BR) (port:Int):Bool:=zx b && (decide (0≤port) && decide (port≤(b.ports.length:Int) - 1))

def hearB (b:BR) (port:Int) (v:VD):BR :=
 if zaS b port=true then
  match b.ports[port.toNat]? with
  | some x=>if (x.up && okVd v)=true then turned { b with ports:=b.ports.set port.toNat ⟨x.up,x.k,true,v⟩ } else b
  | none=>b
 else b

def linkB (b:BR) (port:Int) (up:Bool):BR :=
 if zaS b port=true then
  match b.ports[port.toNat]? with
  | some x=>turned { b with ports:=b.ports.set port.toNat ⟨up,x.k,false,⟨0,0,0,0,0⟩⟩ }
  | none=>b
 else b

def tickB (b:BR):BR:=if zx b=true then turned { b with ticks:=zar b.ticks,f:=ageF b.f } else b

theorem zf3 (x:Int):in1m x=true↔0≤x∧x≤1000000:=by
 unfold in1m
 simp

theorem zd2 {n:Int} (h:in1m n=true):in1m (zar n)=true:=by
 rw [zf3] at *;unfold zar
 split <;> omega

theorem zcL (bits:Int) {l:List FE} (h:fdbOk l=true):∀k,fdbOk (zaj bits l k)=true
 | 0=>h
 | k+1=>by
  rw [zaj]
  split
  ·exact zcL bits h k
  ·exact zhX (zcL bits h k) _

theorem zbw (bits:Int) (l:List FE):∀k,(zaj bits l k).Sublist l
 | 0=>List.Sublist.refl _
 | k+1=>by
  rw [zaj]
  split
  ·exact zbw bits l k
  ·exact List.Sublist.trans List.filter_sublist (zbw bits l k)

theorem zK {b:BR} (h:zx b=true):b.ports.all ptOk=true∧in3 b.id 1 99=true∧(b.name.size:Int)≤10∧in3 (b.ports.length:Int) 1 6=true∧fdbOk b.f=true∧zaK b.v (b.ports.length:Int)=true∧in1m b.ticks=true∧in1m b.parse=true∧in1m b.word=true∧in1m b.drops=true∧in1m b.vers=true:=by
 unfold zx zbg at h;simp only [Bool.and_eq_true,decide_eq_true_eq] at h;obtain ⟨h1,h2,h3,h4,h5,h6,h7,h8,h9,h10,h11⟩:=h;exact ⟨h1,h2,h3,h4,h5,h6,h7,h8,h9,h10,h11⟩

theorem zcd {b:BR} (h:b.ports.all ptOk=true∧in3 b.id 1 99=true∧(b.name.size:Int)≤10∧in3 (b.ports.length:Int) 1 6=true∧fdbOk b.f=true∧zaK b.v (b.ports.length:Int)=true∧in1m b.ticks=true∧in1m b.parse=true∧in1m b.word=true∧in1m b.drops=true∧in1m b.vers=true):zx b=true:=by
 obtain ⟨h1,h2,h3,h4,h5,h6,h7,h8,h9,h10,h11⟩:=h;unfold zx zbg;rw [h1,h2,decide_eq_true h3,h4,h5,h6,h7,h8,h9,h10,h11]
 rfl

theorem zdE {b:BR} (h:zx b=true):zx (turned b)=true:=by
 obtain ⟨h1,h2,h3,h4,h5,h6,h7,h8,h9,h10,h11⟩:=zK h;exact zcd ⟨h1,h2,h3,h4,zcL _ h5 _,h6,h7,h8,h9,h10,zd2 h11⟩

theorem zes {b:BR} (h:zx b=true) {i:Nat} {y:PT} (hy:ptOk y=true):zx { b with ports:=b.ports.set i y }=true:=by
 obtain ⟨h1,h2,h3,h4,h5,h6,h7,h8,h9,h10,h11⟩:=zK h;refine zcd ⟨?_,h2,h3, ?_,h5, ?_,h7,h8,h9,h10,h11⟩
 ·rw [List.all_eq_true] at h1 ⊢;intro x hx;rcases List.mem_or_eq_of_mem_set hx with hx | rfl
  ·exact h1 x hx
  ·exact hy
 ·simpa using h4
 ·simpa using h6

theorem zfG {b:BR} (h:zx b=true) {i:Nat} {x:PT} (hx:b.ports[i]? = some x):ptOk x=true:=by
 have h1:=(zK h).1;rw [List.all_eq_true] at h1;exact h1 x (List.mem_of_getElem? hx)

theorem ziM {x:PT} {v:VD} (h:ptOk x=true) (hu:x.up=true) (hv:okVd v=true):ptOk ⟨x.up,x.k,true,v⟩=true:=by
 unfold ptOk at *;simp only [Bool.and_eq_true] at h
 simp [h.1,hu,hv]

theorem ziQ {x:PT} (up:Bool) (h:ptOk x=true):ptOk ⟨up,x.k,false,⟨0,0,0,0,0⟩⟩=true:=by
 unfold ptOk at *;simp only [Bool.and_eq_true] at h
 simp [h.1,zfc]

theorem zgh {b:BR} {port:Int} (h:zaS b port=true):zx b=true:=by
 unfold zaS at h;simp only [Bool.and_eq_true] at h;exact h.1

theorem zhZ {b:BR} (h:zx b=true) (port:Int) (v:VD):zx (hearB b port v)=true:=by
 unfold hearB
 split
 ·split
  ·next x hx =>
   split
   ·next hu =>
    simp only [Bool.and_eq_true] at hu;exact zdE (zes h (ziM (zfG h hx) hu.1 hu.2))
   ·exact h
  ·exact h
 ·exact h

theorem zf7 {b:BR} (h:zx b=true) (port:Int) (up:Bool):zx (linkB b port up)=true:=by
 unfold linkB
 split
 ·split
  ·next x hx=>exact zdE (zes h (ziQ up (zfG h hx)))
  ·exact h
 ·exact h

theorem zim {b:BR} (h:zx b=true):zx (tickB b)=true:=by
 unfold tickB;rw [if_pos h];obtain ⟨h1,h2,h3,h4,h5,h6,h7,h8,h9,h10,h11⟩:=zK h;exact zdE (zcd ⟨h1,h2,h3,h4,zi7 h5,h6,zd2 h7,h8,h9,h10,h11⟩)

abbrev q208:Oper:=⟨some 47,.call ⟨.value (.func 153),#[.tmp 41,.tmp 46],#[51,3]⟩,195,"l10_role.go:23",#[⟨4,.data⟩,⟨9,.data⟩],none⟩
abbrev q209:Oper:=⟨some 36,.move (.tmp 47),195,"l10_role.go:23",#[⟨10,.data⟩],none⟩
abbrev q210:Oper:=⟨some 48,.extract (.tmp 36) 0,51,"l10_role.go:23",#[⟨11,.data⟩],none⟩
abbrev q211:Oper:=⟨some 49,.extract (.tmp 36) 1,4,"l10_role.go:23",#[⟨11,.data⟩,{ on:=15,ground:=Ground.gcOnly Departure.lateStores }],none⟩
abbrev q212:Oper:=⟨some 10,.alloc 51,0,"l10_role.go:23",#[],none⟩
abbrev q213:Oper:=⟨none,.store 51 (.tmp 10) (.tmp 48),0,"l10_role.go:23",#[⟨14,.data⟩,⟨12,.data⟩,⟨10,.chain⟩,⟨0,.phase⟩,⟨1,.phase⟩,⟨2,.phase⟩,⟨3,.phase⟩,⟨4,.phase⟩,⟨5,.phase⟩,⟨6,.phase⟩,⟨7,.phase⟩,⟨8,.phase⟩,⟨9,.phase⟩,⟨10,.phase⟩,⟨11,.phase⟩,⟨12,.phase⟩,{ on:=13,ground:=Ground.textOnly Departure.lateStores },⟨14,.phase⟩],none⟩
abbrev q214:Oper:=⟨some 11,.assign (.tmp 49),4,"l10_role.go:23",#[⟨13,.data⟩,⟨15,.chain⟩,⟨0,.phase⟩,⟨1,.phase⟩,⟨2,.phase⟩,⟨3,.phase⟩,⟨4,.phase⟩,⟨5,.phase⟩,⟨6,.phase⟩,⟨7,.phase⟩,⟨8,.phase⟩,⟨9,.phase⟩,⟨10,.phase⟩,⟨11,.phase⟩,⟨12,.phase⟩,⟨13,.phase⟩,⟨14,.phase⟩,⟨15,.phase⟩],none⟩

theorem zc4 {w:World} {g:Nat} {c0 c1 c2 c3 c4:Value} {T:TypeId} (h:w.heap[g]? = some (.cells #[c0,c1,c2,c3,c4] T)) (u0 u1 u2 u3 u4:Value):(((((w.setCell ⟨g,0,none⟩ u0).setCell ⟨g,1,none⟩ u1).setCell ⟨g,2,none⟩ u2).setCell ⟨g,3,none⟩ u3).setCell ⟨g,4,none⟩ u4).heap[g]? = some (.cells #[u0,u1,u2,u3,u4] T) :=
 zD (j:=4) (zD (j:=3) (zD (j:=2) (zD (j:=1) (zD (j:=0) h u0) u1) u2) u3) u4

theorem zbp {w:World} {i g:Nat} {o:Obj} (h:w.heap[i]? = some o) (hne:i≠g) (u0 u1 u2 u3 u4:Value):(((((w.setCell ⟨g,0,none⟩ u0).setCell ⟨g,1,none⟩ u1).setCell ⟨g,2,none⟩ u2).setCell ⟨g,3,none⟩ u3).setCell ⟨g,4,none⟩ u4).heap[i]? = some o :=
 zaV (zaV (zaV (zaV (zaV h hne) hne) hne) hne) hne

structure BvSt (w W:World) (v f:VD):Prop where
 res:W.heap[w.heap.size]? = some (.cells #[.int .i64 0,.int .i64 0,.int .i64 0,.int .i64 0,.int .i64 0] 51)
 best:W.heap[w.heap.size+1]? = some (.cells #[.int .i64 v.r,.int .i64 v.c,.int .i64 v.h,.int .i64 v.b,.int .i64 v.p] 51)
 frm:W.heap[w.heap.size+1+1]? = some (.cells #[.int .i64 f.r,.int .i64 f.c,.int .i64 f.h,.int .i64 f.b,.int .i64 f.p] 51)
 below:Below w.heap.size w W

theorem BvSt.later {w W W':World} {v f:VD} (h:BvSt w W v f) (hb:Below W.heap.size W W'):BvSt w W' v f :=
 ⟨za h.res hb,za h.best hb,za h.frm hb,zc h.below hb⟩

theorem BvSt.setBest {w W:World} {v f:VD} (h:BvSt w W v f) (u:VD):BvSt w (((((W.setCell ⟨w.heap.size+1,0,none⟩ (.int .i64 u.r)).setCell ⟨w.heap.size+1,1,none⟩ (.int .i64 u.c)).setCell ⟨w.heap.size+1,2,none⟩ (.int .i64 u.h)).setCell ⟨w.heap.size+1,3,none⟩ (.int .i64 u.b)).setCell ⟨w.heap.size+1,4,none⟩ (.int .i64 u.p)) u f :=
 ⟨zbp h.res (by omega) _ _ _ _ _,zc4 h.best _ _ _ _ _,zbp h.frm (by omega) _ _ _ _ _,zau h.below (by omega) _ _ _ _ _⟩

theorem BvSt.setFrom {w W:World} {v f:VD} (h:BvSt w W v f) (u:VD):BvSt w (((((W.setCell ⟨w.heap.size+1+1,0,none⟩ (.int .i64 u.r)).setCell ⟨w.heap.size+1+1,1,none⟩ (.int .i64 u.c)).setCell ⟨w.heap.size+1+1,2,none⟩ (.int .i64 u.h)).setCell ⟨w.heap.size+1+1,3,none⟩ (.int .i64 u.b)).setCell ⟨w.heap.size+1+1,4,none⟩ (.int .i64 u.p)) v u :=
 ⟨zbp h.res (by omega) _ _ _ _ _,zbp h.best (by omega) _ _ _ _ _,zc4 h.frm _ _ _ _ _,zau h.below (by omega) _ _ _ _ _⟩

theorem zba (id:Int) (a:Option Addr) (n c:Nat) (l:List PT) (w:World) (h:GRow ptF w a n c l) :
  Calls Tryz.prog 119 #[.int .i64 id,.slice a n c] w fun e w'=>e=.returned (.tuple #[.agg #[.int .i64 (bestV id (zae id l)).r,.int .i64 (bestV id (zae id l)).c,.int .i64 (bestV id (zae id l)).h,.int .i64 (bestV id (zae id l)).b,.int .i64 (bestV id (zae id l)).p],.int .i64 (bestP (zae id l))])∧Below w.heap.size w w':=by
 have hle:=h.le;have htop:=h.top;unfold maxLen at htop;have hsz:=hide h.size;go_enter Tryz.func119,Tryz.ntmps119;go_wp2_with fail
 generalize hw3:((w.alloc (Obj.cells #[.int .i64 0,.int .i64 0,.int .i64 0,.int .i64 0,.int .i64 0] 51)).alloc (Obj.cells #[.int .i64 id,.int .i64 0,.int .i64 0,.int .i64 id,.int .i64 0] 51)).alloc (Obj.cells #[.int .i64 0,.int .i64 0,.int .i64 0,.int .i64 0,.int .i64 0] 51)=w3;have st3:BvSt w w3 (bestV id none) (fromV none):=by
  subst hw3;obtain ⟨k0,k1,k2⟩:=zgA (Below.refl _ (((w.alloc (Obj.cells #[.int .i64 0,.int .i64 0,.int .i64 0,.int .i64 0,.int .i64 0] 51)).alloc (Obj.cells #[.int .i64 id,.int .i64 0,.int .i64 0,.int .i64 id,.int .i64 0] 51)).alloc (Obj.cells #[.int .i64 0,.int .i64 0,.int .i64 0,.int .i64 0,.int .i64 0] 51)));exact ⟨k0,k1,k2,zfh _ _ _ _⟩
 clear hw3
 go_loopw [8,9] (fun p i wr=>∃(k:Nat) (s:Option (VD × Nat)),k≤n∧i=.int .i64 k∧p=.int .i64 (bestP s)∧zbe id l k=s∧BvSt w wr (bestV id s) (fromV s)) (fun _ i _=>n - (intOf i).toNat)
 case atStart=>exact ⟨0,none,Nat.zero_le _,rfl,rfl,rfl,st3⟩
 case round =>
  obtain ⟨k,s,hk,rfl,rfl,hs,st⟩:=hrel;obtain ⟨bv,hbv⟩:∃y,y=bestV id s:=⟨_,rfl⟩;obtain ⟨fv,hfv⟩:∃y,y=fromV s:=⟨_,rfl⟩;have BACK:Hid (∀W,BvSt w W bv fv→BvSt w W (bestV id s) (fromV s)):=hide (by subst hbv hfv; exact fun W h=>h);rw [← hbv,← hfv] at st;have HBV:=hide hbv;have HFV:=hide hfv;clear hbv hfv;by_cases hlt:k < n
  ·obtain ⟨x,b,off,hx,rfl,c0,c1,c2,c3,c4,c5,c6,c7⟩:=pt_at (h.below st.below) k hlt;have hnx:=zfl (id:=id) hx;rw [hs] at hnx;have i1:(0:Int)≤(k:Int):=by omega
   have i2:(k:Int) < (n:Int):=by omega
   have NX:=hide hnx;clear hs hnx hx;cases hu:x.up
   ·rw [hu] at c0;have HE:=hide (NX.out.trans (zbu (by unfold offers; rw [hu]; rfl)));clear hu c1 c2 c3 c4 c5 c6 c7;go_wp2
    go_roundw
    case rel=>exact ⟨k+1,s,by omega,by go_num,rfl,HE.out,BACK.out _ st⟩
    case measure=>simp [intOf]; omega
   cases hh:x.has
   ·rw [hu] at c0;rw [hh] at c2;have HE:=hide (NX.out.trans (zbu (by unfold offers; rw [hu,hh]; rfl)));clear hu hh c1 c3 c4 c5 c6 c7;go_wp2
    go_roundw
    case rel=>exact ⟨k+1,s,by omega,by go_num,rfl,HE.out,BACK.out _ st⟩
    case measure=>simp [intOf]; omega
   rw [hu] at c0;rw [hh] at c2;have HUH:Hid (x.up=true∧x.has=true):=hide ⟨hu,hh⟩;have HSS:Hid (∀W',Below wr.heap.size wr W'→zcc W' b (off+k*8+1) (.int .i64 x.k)∧zcc W' b (off+k*8+3) (.int .i64 x.v.r)∧zcc W' b (off+k*8+4) (.int .i64 x.v.c)∧zcc W' b (off+k*8+5) (.int .i64 x.v.h)∧zcc W' b (off+k*8+6) (.int .i64 x.v.b)∧zcc W' b (off+k*8+7) (.int .i64 x.v.p)):=hide (fun W' hb=>⟨(hb.cell (zp c1)).trans c1,(hb.cell (zp c3)).trans c3,(hb.cell (zp c4)).trans c4,(hb.cell (zp c5)).trans c5,(hb.cell (zp c6)).trans c6,(hb.cell (zp c7)).trans c7⟩);obtain ⟨q,hq⟩:∃q,zbX x.v.r x.v.c x.v.h x.v.b x.v.p x.k=q:=⟨_,rfl⟩;obtain ⟨u,hu'⟩:∃u,u=(if q=true then stepV x.v x.k else x.v):=⟨_,rfl⟩;have HST:=hide hq;have HQ:Hid ((if q=true then Value.agg #[.int .i64 x.v.r,.int .i64 (x.v.c+x.k),.int .i64 (x.v.h+1),.int .i64 x.v.b,.int .i64 x.v.p] else Value.agg #[.int .i64 x.v.r,.int .i64 x.v.c,.int .i64 x.v.h,.int .i64 x.v.b,.int .i64 x.v.p])=.agg #[.int .i64 u.r,.int .i64 u.c,.int .i64 u.h,.int .i64 u.b,.int .i64 u.p]):=hide (by subst hu'; cases q <;> rfl);have HU:=hide hu';have ST:=hide st;clear hq hu' hu hh c1 c3 c4 c5 c6 c7;(go_upto_region 8 with fail);clear c0 c2
   go_cut [10,11] from 16 to 75 (fun s10 s11 wx=>∃g:Nat,s10=.pointer (some ⟨g,0,none⟩)∧s11=.bool q∧wr.heap.size≤g∧wx.heap[g]? = some (.cells #[.int .i64 u.r,.int .i64 u.c,.int .i64 u.h,.int .i64 u.b,.int .i64 u.p] 51)∧Below wr.heap.size wr wx)
   case first =>
    have vv:Below wr.heap.size wr wr.drew:=zG (Below.refl _ _);(go_wp2_with fail);refine wp_region_held_drew (S:=(fun W=>zcc W b (off+k*8+1) (.int .i64 x.k)∧zcc W b (off+k*8+3) (.int .i64 x.v.r)∧zcc W b (off+k*8+4) (.int .i64 x.v.c)∧zcc W b (off+k*8+5) (.int .i64 x.v.h)∧zcc W b (off+k*8+6) (.int .i64 x.v.b)∧zcc W b (off+k*8+7) (.int .i64 x.v.p))) (by kernel_rfl) (HSS.out _ vv) (fun hHeld => ?_);refine kK 0 ⟨some 37,.move (.tmp 1),38,"l10_role.go:23",#[],none⟩ ?_;refine kK 1 ⟨some 38,.move (.tmp 9),3,"l10_role.go:23",#[],none⟩ ?_;refine kK 2 ⟨some 39,.indexAddr 38 (.tmp 37) (.tmp 38),0,"l10_role.go:23",#[⟨0,.data⟩,⟨1,.data⟩],none⟩ ?_;refine kK 3 ⟨some 40,.fieldAddr 53 (.tmp 39) 3,0,"l10_role.go:23",#[⟨2,.data⟩],none⟩ ?_;refine kK 4 ⟨some 41,.load 51 (.tmp 40),51,"l10_role.go:23",#[⟨3,.data⟩],none⟩ ?_;refine kK 5 ⟨some 42,.move (.tmp 1),38,"l10_role.go:23",#[],none⟩ ?_;refine kK 6 ⟨some 43,.move (.tmp 9),3,"l10_role.go:23",#[],none⟩ ?_;refine kK 7 ⟨some 44,.indexAddr 38 (.tmp 42) (.tmp 43),0,"l10_role.go:23",#[⟨5,.data⟩,⟨6,.data⟩],none⟩ ?_;refine kK 8 ⟨some 45,.fieldAddr 53 (.tmp 44) 1,0,"l10_role.go:23",#[⟨7,.data⟩],none⟩ ?_;refine kK 9 ⟨some 46,.load 3 (.tmp 45),3,"l10_role.go:23",#[⟨8,.data⟩],none⟩ ?_;refine tR [10,14] ?_;refine AllReadyH.cons (o:=q208) rfl (fun K hK => ?_) ?_
    ·go_simp;refine (zbW x.v.r x.v.c x.v.h x.v.b x.v.p x.k _).mono ?_;rintro e wx ⟨rfl,hbx⟩;rw [HST.out,HQ.out];(try have kB:=za kB hbx);have vv:=zc vv hbx;clear hbx;(go_wp2_with fail);refine kO hK (HSS.out _ vv) fun hHeld => ?_
     clear hK K;refine kK 11 q209 ?_;refine kK 12 q210 ?_;refine kK 13 q211 ?_;refine kR 14 q212 (fun K hK => ?_);go_simp
     first
     | refine zw (K:=K _) (fun wx kB hbx => ?_)
     | refine zq (K:=K _) (fun wx kB hbx => ?_)
     have gB:=vv.size;have vv:=zc vv hbx;clear hbx;refine kO hK (HSS.out _ vv) fun hHeld => ?_
     clear hK K;refine kR 15 q213 (fun K hK => ?_);obtain ⟨⟨b0,b1,b2,b3,b4⟩,f0,f1,f2,f3,f4⟩:=zZ kB;go_simp;have vv:=zau vv gB (.int .i64 u.r) (.int .i64 u.c) (.int .i64 u.h) (.int .i64 u.b) (.int .i64 u.p);have kB:=zc4 kB (.int .i64 u.r) (.int .i64 u.c) (.int .i64 u.h) (.int .i64 u.b) (.int .i64 u.p);clear b0 b1 b2 b3 b4 f0 f1 f2 f3 f4;refine kO hK (HSS.out _ vv) fun hHeld => ?_
     clear hK K;refine kK 16 q214 ?_;refine wpAnyH_done (by kernel_rfl) ?_ _;clear hHeld;(go_wp2_with fail)
     go_meet
     exact ⟨_,rfl,rfl,gB,kB,vv⟩
    refine AllReadyH.cons (o:=q212) rfl (fun K hK => ?_) ?_
    ·go_simp
     first
     | refine zw (K:=K _) (fun wx kB hbx => ?_)
     | refine zq (K:=K _) (fun wx kB hbx => ?_)
     have gB:=vv.size;have vv:=zc vv hbx;clear hbx;refine kO hK (HSS.out _ vv) fun hHeld => ?_
     clear hK K;refine kR 10 q208 (fun K hK => ?_);go_simp;refine (zbW x.v.r x.v.c x.v.h x.v.b x.v.p x.k _).mono ?_;rintro e wx ⟨rfl,hbx⟩;rw [HST.out,HQ.out];(try have kB:=za kB hbx);have vv:=zc vv hbx;clear hbx;(go_wp2_with fail);refine kO hK (HSS.out _ vv) fun hHeld => ?_
     clear hK K;refine kK 11 q209 ?_;refine kK 12 q210 ?_;refine kK 13 q211 ?_;refine kR 15 q213 (fun K hK => ?_);obtain ⟨⟨b0,b1,b2,b3,b4⟩,f0,f1,f2,f3,f4⟩:=zZ kB;go_simp;have vv:=zau vv gB (.int .i64 u.r) (.int .i64 u.c) (.int .i64 u.h) (.int .i64 u.b) (.int .i64 u.p);have kB:=zc4 kB (.int .i64 u.r) (.int .i64 u.c) (.int .i64 u.h) (.int .i64 u.b) (.int .i64 u.p);clear b0 b1 b2 b3 b4 f0 f1 f2 f3 f4;refine kO hK (HSS.out _ vv) fun hHeld => ?_
     clear hK K;refine kK 16 q214 ?_;refine wpAnyH_done (by kernel_rfl) ?_ _;clear hHeld;(go_wp2_with fail)
     go_meet
     exact ⟨_,rfl,rfl,gB,kB,vv⟩
    exact AllReadyH.nil
   case rest =>
    obtain ⟨g,rfl,rfl,hg,kX,hb⟩:=hcut;obtain ⟨wS,hwS⟩:∃x,x=wc:=⟨_,rfl⟩;subst hwS;have st:=ST.out.later hb;have hz:=ST.out.frm;have hlt2:=(Array.getElem?_eq_some_iff.1 hz).1;have ne1:¬g=w.heap.size+1+1:=by omega
    have ne2:¬w.heap.size+1+1=g:=by omega
    have ne3:¬g=w.heap.size+1:=by omega
    have ne4:¬w.heap.size+1=g:=by omega
    obtain ⟨⟨x0,x1,x2,x3,x4⟩,-⟩:=zZ kX;have KX:=hide kX;clear hb hz hlt2 hg kX;cases q
    ·have HE:=hide (NX.out.trans (zbu (by unfold offers ze5; rw [HST.out]; simp)));go_wp2
     go_roundw
     case rel=>exact ⟨k+1,s,by omega,by go_num,rfl,HE.out,BACK.out _ st⟩
     case measure=>simp [intOf]; omega
    have hur:u.r=x.v.r:=by rw [HU.out]; rfl
    cases hlr:decide (u.r < id)
    ·have HE:=hide (NX.out.trans (zbu (by unfold offers; rw [← hur,hlr]; simp)));have hlr:¬u.r < id:=by simpa using hlr
     clear hur;go_wp2
     go_roundw
     case rel=>exact ⟨k+1,s,by omega,by go_num,rfl,HE.out,BACK.out _ st⟩
     case measure=>simp [intOf]; omega
    have ho:offers id x=true:=by unfold offers ze5; rw [HUH.out.1,HUH.out.2,HST.out,← hur,hlr]; rfl
    have hlr:u.r < id:=by simpa using hlr
    have huu:stepV x.v x.k=u:=HU.out.symm;have HO:=hide ho;have HUU:=hide huu;clear hur ho huu;clear ne3 ne4;cases s with
    | none =>
     have HE:Hid (zbe id l (k+1)=some (u,k)):=hide (by rw [NX.out]; unfold zbd; rw [if_pos HO.out,HUU.out]);rw [show bestP none = -1 from rfl];have SL:=hide st;obtain ⟨⟨z0,z1,z2,z3,z4⟩,v0,v1,v2,v3,v4⟩:=zZ st.frm;clear st;(go_upto_region 11 with fail);generalize hwf:((((wS.setCell ⟨w.heap.size+1+1,0,none⟩ (.int .i64 u.r)).setCell ⟨w.heap.size+1+1,1,none⟩ (.int .i64 u.c)).setCell ⟨w.heap.size+1+1,2,none⟩ (.int .i64 u.h)).setCell ⟨w.heap.size+1+1,3,none⟩ (.int .i64 u.b)).setCell ⟨w.heap.size+1+1,4,none⟩ (.int .i64 u.p)=wf;have stf:BvSt w wf bv u:=by rw [← hwf]; exact SL.out.setFrom u
     have kf:wf.heap[g]? = some (.cells #[.int .i64 u.r,.int .i64 u.c,.int .i64 u.h,.int .i64 u.b,.int .i64 u.p] 51):=by rw [← hwf]; exact zbp KX.out (by omega) _ _ _ _ _
     clear hwf x0 x1 x2 x3 x4 v0 v1 v2 v3 v4 z0 z1 z2 z3 z4;obtain ⟨⟨x0,x1,x2,x3,x4⟩,-⟩:=zZ kf;obtain ⟨⟨n0,n1,n2,n3,n4⟩,m0,m1,m2,m3,m4⟩:=zZ stf.best;have HSET:Hid (BvSt w _ ⟨u.r,u.c,u.h,id,0⟩ u):=hide (stf.setBest ⟨u.r,u.c,u.h,id,0⟩);clear stf kf;go_wp2
     go_roundw
     case rel=>exact ⟨k+1,some (u,k),by omega,by go_num,rfl,HE.out,HSET.out⟩
     case measure=>simp [intOf]; omega
    | some fj =>
     obtain ⟨f,j⟩:=fj;rw [show bestP (some (f,j))=(j:Int) from rfl];have hneg:¬((j:Int) < 0):=by omega
     have hff:fv=f:=HFV.out;subst hff;obtain ⟨⟨z0,z1,z2,z3,z4⟩,-⟩:=zZ st.frm;cases hl:lessV u fv
     ·have HE:Hid (zbe id l (k+1)=some (fv,j)):=hide (by rw [NX.out]; unfold zbd; rw [if_pos HO.out,HUU.out]; simp only; rw [if_neg (by rw [hl]; decide)]);have HL:Hid (zbh u.r u.c u.b u.p fv.r fv.c fv.b fv.p=false):=hide hl;clear hl;(go_wp2_with fail);refine (zaP u.r u.c u.h u.b u.p fv.r fv.c fv.h fv.b fv.p _).mono ?_;rintro e wl ⟨rfl,hbl⟩;rw [HL.out];have SL:=hide (st.later hbl);clear hbl st z0 z1 z2 z3 z4 x0 x1 x2 x3 x4;go_wp2
      go_roundw
      case rel=>exact ⟨k+1,some (fv,j),by omega,by go_num,rfl,HE.out,BACK.out _ SL.out⟩
      case measure=>simp [intOf]; omega
     ·have HE:Hid (zbe id l (k+1)=some (u,k)):=hide (by rw [NX.out]; unfold zbd; rw [if_pos HO.out,HUU.out]; simp only; rw [if_pos hl]);have HL:Hid (zbh u.r u.c u.b u.p fv.r fv.c fv.b fv.p=true):=hide hl;clear hl;(go_wp2_with fail);refine (zaP u.r u.c u.h u.b u.p fv.r fv.c fv.h fv.b fv.p _).mono ?_;rintro e wl ⟨rfl,hbl⟩;rw [HL.out];have SL:=hide (st.later hbl);have KX:=hide (za KX.out hbl);clear hbl st z0 z1 z2 z3 z4 x0 x1 x2 x3 x4;obtain ⟨⟨x0,x1,x2,x3,x4⟩,-⟩:=zZ KX.out;obtain ⟨⟨z0,z1,z2,z3,z4⟩,v0,v1,v2,v3,v4⟩:=zZ SL.out.frm;(go_upto_region 11 with fail);generalize hwf:((((wl.setCell ⟨w.heap.size+1+1,0,none⟩ (.int .i64 u.r)).setCell ⟨w.heap.size+1+1,1,none⟩ (.int .i64 u.c)).setCell ⟨w.heap.size+1+1,2,none⟩ (.int .i64 u.h)).setCell ⟨w.heap.size+1+1,3,none⟩ (.int .i64 u.b)).setCell ⟨w.heap.size+1+1,4,none⟩ (.int .i64 u.p)=wf;have stf:BvSt w wf bv u:=by rw [← hwf]; exact SL.out.setFrom u
      have kf:wf.heap[g]? = some (.cells #[.int .i64 u.r,.int .i64 u.c,.int .i64 u.h,.int .i64 u.b,.int .i64 u.p] 51):=by rw [← hwf]; exact zbp KX.out (by omega) _ _ _ _ _
      clear hwf x0 x1 x2 x3 x4 v0 v1 v2 v3 v4 z0 z1 z2 z3 z4;obtain ⟨⟨x0,x1,x2,x3,x4⟩,-⟩:=zZ kf;obtain ⟨⟨n0,n1,n2,n3,n4⟩,m0,m1,m2,m3,m4⟩:=zZ stf.best;have HSET:Hid (BvSt w _ ⟨u.r,u.c,u.h,id,0⟩ u):=hide (stf.setBest ⟨u.r,u.c,u.h,id,0⟩);clear stf kf;go_wp2
      go_roundw
      case rel=>exact ⟨k+1,some (u,k),by omega,by go_num,rfl,HE.out,HSET.out⟩
      case measure=>simp [intOf]; omega
  ·have hkn:k=n:=by omega
   subst hkn;have HB:Hid (zae id l=s):=hide (by unfold zae; rw [hsz.out]; exact hs);obtain ⟨⟨x0,x1,x2,x3,x4⟩,y0,y1,y2,y3,y4⟩:=zZ st.best;obtain ⟨⟨r0,r1,r2,r3,r4⟩,z0,z1,z2,z3,z4⟩:=zZ st.res;have ne:¬w.heap.size=w.heap.size+1:=by omega
   have hb:=zau st.below (Nat.le_refl w.heap.size) (.int .i64 bv.r) (.int .i64 bv.c) (.int .i64 bv.h) (.int .i64 bv.b) (.int .i64 bv.p);clear hs st;go_wp2;exact bodyPost_ret (v:=.tuple #[.agg #[.int .i64 bv.r,.int .i64 bv.c,.int .i64 bv.h,.int .i64 bv.b,.int .i64 bv.p],.int .i64 (bestP s)]) (by simp [results,Tryz.results119,go_sem, *]) rfl ⟨(by rw [HB.out,← HBV.out]),hb⟩

theorem zgW {n port:Int} (h:in3 port 0 7=false):bitOf n port=false:=by
 unfold bitOf;rw [h]
 rfl

theorem zhP {n:Int} {k:Nat} (h:k≤7):bitOf n (k:Int)=(bits .and .i64 (n / 2 ^ k) 1 == 1):=by
 unfold bitOf in3;rw [Int.toNat_natCast,decide_eq_true (show (0:Int)≤(k:Int) by omega),decide_eq_true (show (k:Int)≤7 by omega)]
 rfl

theorem zfN (n port:Int) (w:World) :
  Calls Tryz.prog 135 #[.int .i64 n,.int .i64 port] w fun e w'=>e=.returned (.bool (bitOf n port))∧w'=w:=by
 cases hin:in3 port 0 7
 ·rw [zgW hin];have HIN:=hide hin;clear hin;go_enter Tryz.func135,Tryz.ntmps135;(go_wp2_with fail);refine (zf port 0 7 _).mono ?_;rintro e w1 ⟨rfl,e1⟩;obtain rfl:=e1.symm;rw [show (decide (0≤port) && decide (port≤7))=false from HIN.out];go_wp2;go_ret;exact ⟨rfl,rfl⟩
 ·have hp:0≤port∧port≤7:=by unfold in3 at hin; simpa using hin
  obtain ⟨k,rfl⟩:∃k:Nat,port=(k:Int):=⟨port.toNat,by omega⟩;rw [zhP (by omega)];generalize hB:(bits .and .i64 (n / 2 ^ k) 1 == 1)=B;have hwk:IntKind.u64.wrap (k:Int)=(k:Int):=by rw [IntKind.wrap_u64]; omega
  have HIN:=hide hin;clear hin;go_enter Tryz.func135,Tryz.ntmps135;(go_wp2_with fail);refine (zf (k:Int) 0 7 _).mono ?_;rintro e w1 ⟨rfl,e1⟩;obtain rfl:=e1.symm;rw [show (decide (0≤(k:Int)) && decide ((k:Int)≤7))=true from HIN.out];go_wp2;go_ret;exact ⟨zai (by first | rfl | simp [hB]),rfl⟩

end Go.Proofs.YtkaefmfopejbaaaGreat
