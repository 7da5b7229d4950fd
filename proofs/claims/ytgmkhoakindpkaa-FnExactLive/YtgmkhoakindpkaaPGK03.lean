/-
  Packed: BrOpen NetOpen Made VecEql PtOkS PtApp PtHelp PtMark VrowHelp ImplIn.
-/
import Derived.Test.YtgmkhoakindpkaaPGKW
import Derived.Test.YtgmkhoakindpkaaPGK01
import Derived.Test.YtgmkhoakindpkaaPGK02
import Derived.WalkKit
import Derived.ProofKit
import Derived.OpenShut
import Derived.ShutString
import Derived.ChangeOld
import Derived.Below
import Derived.Lib.SmallJoins
import Derived.Deep.CutRange
import Derived.Deep.RegionHeld3
namespace Go.Proofs.Ytgmkhoakindpkaa
set_option maxRecDepth 100000
set_option maxHeartbeats 16000000
open Go.RowKit

section
open Go.RowKit

structure BR.Rng (b:BR):Prop where
 id:I64 b.id
 name:b.name.size≤maxLen
 ports:∀x∈b.ports,x.Rng
 f:∀x∈b.f,x.Rng
 v:∀x∈b.v.rows,x.Rng
 ticks:I64 b.ticks
 parse:I64 b.parse
 word:I64 b.word
 drops:I64 b.drops
 vers:I64 b.vers

structure zcd (P:Program) (tB ts tpS tp tv tfS tf tV trS tr tiS ti tb:TypeId) (f0 f1 f2 f3 f4 f5 f6 f7 f8 f9 p0 p1 p2 p3 v0 v1 v2 v3 v4 e0 e1 e2 e3 e4 t0 t1 r0 r1 r2:Field):Prop where
 uB:P.underlying tB=some (.struct #[f0,f1,f2,f3,f4,f5,f6,f7,f8,f9])
 us:P.underlying ts=some .string
 upS:P.underlying tpS=some (.slice tp)
 up:P.underlying tp=some (.struct #[p0,p1,p2,p3])
 uv:P.underlying tv=some (.struct #[v0,v1,v2,v3,v4])
 ufS:P.underlying tfS=some (.slice tf)
 uf:P.underlying tf=some (.struct #[e0,e1,e2,e3,e4])
 uV:P.underlying tV=some (.struct #[t0,t1])
 urS:P.underlying trS=some (.slice tr)
 ur:P.underlying tr=some (.struct #[r0,r1,r2])
 uiS:P.underlying tiS=some (.slice ti)
 ui:P.underlying ti=some (.int .i64)
 ub:P.underlying tb=some .bool
 f0:f0.type=ti∧f0.offset=0
 f1:f1.type=ts∧f1.offset=1
 f2:f2.type=tpS∧f2.offset=2
 f3:f3.type=tfS∧f3.offset=3
 f4:f4.type=tV∧f4.offset=4
 f5:f5.type=ti∧f5.offset=6
 f6:f6.type=ti∧f6.offset=7
 f7:f7.type=ti∧f7.offset=8
 f8:f8.type=ti∧f8.offset=9
 f9:f9.type=ti∧f9.offset=10
 p0:p0.type=tb∧p0.offset=0
 p1:p1.type=ti∧p1.offset=1
 p2:p2.type=tb∧p2.offset=2
 p3:p3.type=tv∧p3.offset=3
 v0:v0.type=ti∧v0.offset=0
 v1:v1.type=ti∧v1.offset=1
 v2:v2.type=ti∧v2.offset=2
 v3:v3.type=ti∧v3.offset=3
 v4:v4.type=ti∧v4.offset=4
 e0:e0.type=ti∧e0.offset=0
 e1:e1.type=ti∧e1.offset=1
 e2:e2.type=ti∧e2.offset=2
 e3:e3.type=ti∧e3.offset=3
 e4:e4.type=tb∧e4.offset=4
 t0:t0.type=trS∧t0.offset=0
 t1:t1.type=tiS∧t1.offset=1
 r0:r0.type=ti∧r0.offset=0
 r1:r1.type=ti∧r1.offset=1
 r2:r2.type=ti∧r2.offset=2
 cB:P.cellsOf tB=11
 cs:P.cellsOf ts=1
 cpS:P.cellsOf tpS=1
 cp:P.cellsOf tp=8
 cv:P.cellsOf tv=5
 cfS:P.cellsOf tfS=1
 cf:P.cellsOf tf=5
 cV:P.cellsOf tV=2
 crS:P.cellsOf trS=1
 cr:P.cellsOf tr=3
 ciS:P.cellsOf tiS=1
 ci:P.cellsOf ti=1
 cb:P.cellsOf tb=1

section
open Go.ChangeShapes Go.WideShapes Go.ChangeAt
variable {H:Type} {enc:TypeId × Value→H} {P:Program} {w:World}

theorem zeX {tp ts tb tis ti:TypeId} {f0 f1 g0 g1 g2:Field} (hs:P.underlying tp=some (.struct #[f0,f1])) (hC:P.cellsOf tp=2) (ef0:f0.type=ts∧f0.offset=0) (ef1:f1.type=tis∧f1.offset=1) (cts:P.cellsOf ts=1) (ctis:P.cellsOf tis=1)
  (hts:P.underlying ts=some (.slice tb)) (htis:P.underlying tis=some (.slice ti)) (htb:P.underlying tb=some (.struct #[g0,g1,g2])) (hi:P.underlying ti=some (.int .i64))
  (e0:g0.type=ti∧g0.offset=0) (e1:g1.type=ti∧g1.offset=1) (e2:g2.type=ti∧g2.offset=2) (hCb:P.cellsOf tb=3) (hti:P.cellsOf ti=1)
  {fuel:Nat} {cs:List Value} {x:DataW H × List MemPlace} (h:DataW.trod enc P w 0 (fun _=>true) true fuel tp cs=some x) :
  ∃a n c o p q t,cs=[.slice a n c,.slice o p q]∧VTab w a n c o p q t∧∀x∈t.rows,x.Rng:=by
 obtain ⟨xs,n,_,_,hlen,hxl,hq⟩:=DataW.trod_struct hs h;rw [hC] at hlen
 match xs,hxl,cs,hlen with
 | [y0,y1],_,[v0,v1],_ =>
  have k0:=hq 0 f0 rfl;have k1:=hq 1 f1 rfl;rw [ef0.1,ef0.2,cts] at k0;rw [ef1.1,ef1.2,ctis] at k1
  simp at k0 k1
  obtain ⟨a,n,c,l,rfl,hl,hr⟩:=zaJ ⟨0,0,0⟩ vrowF VR.Rng hts hCb (fun h=>zeW htb hi e0 e1 e2 hCb hti h) k0;rcases open_ints htis hi hti k1 with ⟨hcs,_⟩ | ⟨x,l',c',zs,hcs,_,hl',hm,hz,_,hcell,hwz⟩
  ·simp only [List.cons.injEq,and_true] at hcs;subst hcs;exact ⟨a,n,c,none,0,0,⟨l,[]⟩,rfl,⟨hl,zfb w⟩,hr⟩
  ·simp only [List.cons.injEq,and_true] at hcs;subst hcs;exact ⟨a,n,c,some x,l',c',⟨l,zs.take l'⟩,rfl,⟨hl,zeB hl' hm (by simpa using hz) hcell hwz⟩,hr⟩

end

end

section
open Go.RowKit

def LK.Rng (x:LK):Prop:=I64 x.a∧I64 x.p∧I64 x.b∧I64 x.q
def SY.Rng (x:SY):Prop:=I64 x.l∧I64 x.v.r∧I64 x.v.c∧I64 x.v.h∧I64 x.v.b∧I64 x.v.p

structure NV.Rng (N:NV):Prop where
 b:∀x∈N.bs,x.B.Rng
 l:∀x∈N.ls,x.Rng
 s:∀x∈N.ss,x.Rng

structure zbt (P:Program) (tlS tl ti:TypeId) (l0 l1 l2 l3:Field):Prop where
 ulS:P.underlying tlS=some (.slice tl)
 ul:P.underlying tl=some (.struct #[l0,l1,l2,l3])
 ui:P.underlying ti=some (.int .i64)
 l0:l0.type=ti∧l0.offset=0
 l1:l1.type=ti∧l1.offset=1
 l2:l2.type=ti∧l2.offset=2
 l3:l3.type=ti∧l3.offset=3
 cl:P.cellsOf tl=4
 ci:P.cellsOf ti=1

structure zce (P:Program) (tN tbS tB tlS tsS tS tv ti tb:TypeId) (n0 n1 n2 s0 s1 s2 v0 v1 v2 v3 v4:Field):Prop where
 uN:P.underlying tN=some (.struct #[n0,n1,n2])
 ubS:P.underlying tbS=some (.slice tB)
 usS:P.underlying tsS=some (.slice tS)
 uS:P.underlying tS=some (.struct #[s0,s1,s2])
 uv:P.underlying tv=some (.struct #[v0,v1,v2,v3,v4])
 ui:P.underlying ti=some (.int .i64)
 ub:P.underlying tb=some .bool
 n0:n0.type=tbS∧n0.offset=0
 n1:n1.type=tlS∧n1.offset=1
 n2:n2.type=tsS∧n2.offset=2
 s0:s0.type=ti∧s0.offset=0
 s1:s1.type=tb∧s1.offset=1
 s2:s2.type=tv∧s2.offset=2
 v0:v0.type=ti∧v0.offset=0
 v1:v1.type=ti∧v1.offset=1
 v2:v2.type=ti∧v2.offset=2
 v3:v3.type=ti∧v3.offset=3
 v4:v4.type=ti∧v4.offset=4
 cN:P.cellsOf tN=3
 cbS:P.cellsOf tbS=1
 clS:P.cellsOf tlS=1
 csS:P.cellsOf tsS=1
 cS:P.cellsOf tS=7
 cv:P.cellsOf tv=5
 ci:P.cellsOf ti=1
 cb:P.cellsOf tb=1

section
open Go.ChangeShapes Go.WideShapes Go.ChangeAt
variable {H:Type} {enc:TypeId × Value→H} {P:Program} {w:World}

theorem zde {tB ts tpS tp tv tfS tf tV trS tr tiS ti tb:TypeId} {f0 f1 f2 f3 f4 f5 f6 f7 f8 f9 p0 p1 p2 p3 v0 v1 v2 v3 v4 e0 e1 e2 e3 e4 t0 t1 r0 r1 r2:Field} (T:zcd P tB ts tpS tp tv tfS tf tV trS tr tiS ti tb f0 f1 f2 f3 f4 f5 f6 f7 f8 f9 p0 p1 p2 p3 v0 v1 v2 v3 v4 e0 e1 e2 e3 e4 t0 t1 r0 r1 r2)
  {fuel:Nat} {cl:List Value} {x:DataW H × List MemPlace} (h:DataW.trod enc P w 0 (fun _=>true) true fuel tB cl=some x):∃y:BV,cl=brF.cs y∧(y.Reads w∧y.B.Rng):=by
 obtain ⟨xs,m,_,_,hlen,hxl,hq⟩:=DataW.trod_struct T.uB h;rw [T.cB] at hlen;have hq:∀(i:Nat) (fd:Field),#[f0,f1,f2,f3,f4,f5,f6,f7,f8,f9][i]?=some fd→_:=hq
 match xs,hxl,cl,hlen with
 | [y0,y1,y2,y3,y4,y5,y6,y7,y8,y9],_,[u0,u1,u2,u3,u4,u5,u6,u7,u8,u9,u10],_ =>
  have k0:=hq 0 f0 rfl;have k1:=hq 1 f1 rfl;have k2:=hq 2 f2 rfl;have k3:=hq 3 f3 rfl;have k4:=hq 4 f4 rfl;have k5:=hq 5 f5 rfl;have k6:=hq 6 f6 rfl;have k7:=hq 7 f7 rfl;have k8:=hq 8 f8 rfl;have k9:=hq 9 f9 rfl;rw [T.f0.1,T.f0.2,T.ci] at k0;rw [T.f1.1,T.f1.2,T.cs] at k1;rw [T.f2.1,T.f2.2,T.cpS] at k2;rw [T.f3.1,T.f3.2,T.cfS] at k3;rw [T.f4.1,T.f4.2,T.cV] at k4;rw [T.f5.1,T.f5.2,T.ci] at k5;rw [T.f6.1,T.f6.2,T.ci] at k6;rw [T.f7.1,T.f7.2,T.ci] at k7;rw [T.f8.1,T.f8.2,T.ci] at k8;rw [T.f9.1,T.f9.2,T.ci] at k9
  simp at k0 k1 k2 k3 k4 k5 k6 k7 k8 k9
  obtain ⟨Id,i0,-,r0⟩:=DataW.trod_int T.ui k0;obtain ⟨Nm,i1,-,r1⟩:=DataW.trod_string T.us k1;obtain ⟨a,n,c,lp,rfl,hp,rp⟩:=zfe T.upS T.up T.uv T.ui T.ub T.v0 T.v1 T.v2 T.v3 T.v4 T.p0 T.p1 T.p2 T.p3 T.cp T.cv T.ci T.cb k2;obtain ⟨fa,fn,fc,lf,rfl,hf',rf⟩:=zaJ ⟨0,0,0,0,false⟩ fentF FE.Rng T.ufS T.cf (fun h=>zex T.uf T.ui T.ub T.e0 T.e1 T.e2 T.e3 T.e4 T.cf T.ci T.cb h) k3;obtain ⟨ra,rn,rc,oa,on,oc,vt,i4,hvt,rv⟩:=zeX T.uV T.cV T.t0 T.t1 T.crS T.ciS T.urS T.uiS T.ur T.ui T.r0 T.r1 T.r2 T.cr T.ci k4;obtain ⟨Ti,i5,-,r5⟩:=DataW.trod_int T.ui k5;obtain ⟨Pa,i6,-,r6⟩:=DataW.trod_int T.ui k6;obtain ⟨Wo,i7,-,r7⟩:=DataW.trod_int T.ui k7;obtain ⟨Dr,i8,-,r8⟩:=DataW.trod_int T.ui k8;obtain ⟨Ve,i9,-,r9⟩:=DataW.trod_int T.ui k9;simp only [List.cons.injEq,and_true] at i0 i1 i4 i5 i6 i7 i8 i9;obtain ⟨j0,j1⟩:=i4;subst i0 i1 j0 j1 i5 i6 i7 i8 i9;exact ⟨⟨a,n,c,fa,fn,fc,ra,rn,rc,oa,on,oc,⟨Id,Nm,lp,lf,vt,Ti,Pa,Wo,Dr,Ve⟩⟩,rfl,⟨hp,hf',hvt⟩,wf_64 r0,r1,rp,rf,rv,wf_64 r5,wf_64 r6,wf_64 r7,wf_64 r8,wf_64 r9⟩

theorem zeE {tlS tl ti:TypeId} {l0 l1 l2 l3:Field} (T:zbt P tlS tl ti l0 l1 l2 l3) {fuel:Nat} {cs:List Value} {x:DataW H × List MemPlace} (h:DataW.trod enc P w 0 (fun _=>true) true fuel tl cs=some x):∃y,cs=linkF.cs y∧y.Rng:=by
 obtain ⟨xs,n,_,_,hlen,hxl,hq⟩:=DataW.trod_struct T.ul h;rw [T.cl] at hlen
 match xs,hxl,cs,hlen with
 | [y0,y1,y2,y3],_,[v0,v1,v2,v3],_ =>
  have k0:=hq 0 l0 rfl;have k1:=hq 1 l1 rfl;have k2:=hq 2 l2 rfl;have k3:=hq 3 l3 rfl;rw [T.l0.1,T.l0.2,T.ci] at k0;rw [T.l1.1,T.l1.2,T.ci] at k1;rw [T.l2.1,T.l2.2,T.ci] at k2;rw [T.l3.1,T.l3.2,T.ci] at k3
  simp at k0 k1 k2 k3
  obtain ⟨A,i0,-,r0⟩:=DataW.trod_int T.ui k0;obtain ⟨B,i1,-,r1⟩:=DataW.trod_int T.ui k1;obtain ⟨C,i2,-,r2⟩:=DataW.trod_int T.ui k2;obtain ⟨D,i3,-,r3⟩:=DataW.trod_int T.ui k3;simp only [List.cons.injEq,and_true] at i0 i1 i2 i3;subst i0 i1 i2 i3;exact ⟨⟨A,B,C,D⟩,rfl,wf_64 r0,wf_64 r1,wf_64 r2,wf_64 r3⟩

theorem zef {tlS tl ti:TypeId} {l0 l1 l2 l3:Field} (T:zbt P tlS tl ti l0 l1 l2 l3) {fuel:Nat} {v:Value} {x:DataW H × List MemPlace} (h:DataW.trod enc P w 0 (fun _=>true) true fuel tlS [v]=some x) :
  ∃ao len cap l,v=.slice ao len cap∧GRow linkF w ao len cap l∧∀x∈l,x.Rng :=
 zaJ ⟨0,0,0,0⟩ linkF LK.Rng T.ulS T.cl (fun h=>zeE T h) h

theorem zfh {tN tbS tB tlS tsS tS tv ti tb:TypeId} {n0 n1 n2 s0 s1 s2 v0 v1 v2 v3 v4:Field} (T:zce P tN tbS tB tlS tsS tS tv ti tb n0 n1 n2 s0 s1 s2 v0 v1 v2 v3 v4) {fuel:Nat} {cs:List Value} {x:DataW H × List MemPlace} (h:DataW.trod enc P w 0 (fun _=>true) true fuel tS cs=some x):∃y,cs=sayF.cs y∧y.Rng:=by
 obtain ⟨xs,n,_,_,hlen,hxl,hq⟩:=DataW.trod_struct T.uS h;rw [T.cS] at hlen
 match xs,hxl,cs,hlen with
 | [y0,y1,y2],_,[u0,u1,u2,u3,u4,u5,u6],_ =>
  have k0:=hq 0 s0 rfl;have k1:=hq 1 s1 rfl;have k2:=hq 2 s2 rfl;rw [T.s0.1,T.s0.2,T.ci] at k0;rw [T.s1.1,T.s1.2,T.cb] at k1;rw [T.s2.1,T.s2.2,T.cv] at k2
  simp at k0 k1 k2
  obtain ⟨L,i0,-,r0⟩:=DataW.trod_int T.ui k0;obtain ⟨B,i1,-⟩:=DataW.trod_bool T.ub k1;obtain ⟨V,i2,a0,a1,a2,a3,a4⟩:=zd4 T.uv T.ui T.v0 T.v1 T.v2 T.v3 T.v4 T.cv T.ci k2;simp only [List.cons.injEq,and_true] at i0 i1 i2;obtain ⟨j0,j1,j2,j3,j4⟩:=i2;subst i0 i1 j0 j1 j2 j3 j4;exact ⟨⟨L,B,V⟩,rfl,wf_64 r0,a0,a1,a2,a3,a4⟩

def BV.zero:BV:=⟨none,0,0,none,0,0,none,0,0,none,0,0,⟨0,⟨#[]⟩,[],[],⟨[],[]⟩,0,0,0,0,0⟩⟩

theorem zdV {tN tbS tB tlS tl tsS tS ts tpS tp tv tfS tf tV trS tr tiS ti tb:TypeId} {f0 f1 f2 f3 f4 f5 f6 f7 f8 f9 p0 p1 p2 p3 v0 v1 v2 v3 v4 e0 e1 e2 e3 e4 t0 t1 r0 r1 r2 l0 l1 l2 l3 n0 n1 n2 s0 s1 s2:Field}
  (T:zcd P tB ts tpS tp tv tfS tf tV trS tr tiS ti tb f0 f1 f2 f3 f4 f5 f6 f7 f8 f9 p0 p1 p2 p3 v0 v1 v2 v3 v4 e0 e1 e2 e3 e4 t0 t1 r0 r1 r2) (L:zbt P tlS tl ti l0 l1 l2 l3) (S:zce P tN tbS tB tlS tsS tS tv ti tb n0 n1 n2 s0 s1 s2 v0 v1 v2 v3 v4)
  {r:Reach} {b0:Nat} {v:Value} {d:DataW H} {p:List MemPlace} (hv:Value.okWide P w r b0 tN v) (h:DataW.Trod enc P w 0 (fun _=>true) true tN v d p) :
  ∃N:NV,v=.agg #[.slice N.ba N.bn N.bc,.slice N.la N.ln N.lc,.slice N.sa N.sn N.sc]∧zJ w N∧N.Rng:=by
 obtain ⟨cs,rfl,hsz⟩:=okWide_struct S.uN hv;obtain ⟨fuel,hf⟩:=h;obtain ⟨xs,m,_,_,hlen,hxl,hq⟩:=DataW.trod_struct S.uN hf;rw [S.cN] at hlen;obtain ⟨cl⟩:=cs;have hlen:cl.length=3:=hlen
 match xs,hxl,cl,hlen with
 | [y0,y1,y2],_,[u0,u1,u2],_ =>
  have k0:=hq 0 n0 rfl;have k1:=hq 1 n1 rfl;have k2:=hq 2 n2 rfl;rw [S.n0.1,S.n0.2,S.cbS] at k0;rw [S.n1.1,S.n1.2,S.clS] at k1;rw [S.n2.1,S.n2.2,S.csS] at k2
  simp [Value.cells] at k0 k1 k2
  obtain ⟨ba,bn,bc,bs,rfl,hb,rb⟩:=zaJ BV.zero brF (fun y=>y.Reads w∧y.B.Rng) S.ubS T.cB (fun h=>zde T h) k0;obtain ⟨la,ln,lc,ls,rfl,hl,rl⟩:=zef L k1;obtain ⟨sa,sn,sc,ss,rfl,hs,rs⟩:=zaJ ⟨0,false,⟨0,0,0,0,0⟩⟩ sayF SY.Rng S.usS S.cS (fun h=>zfh S h) k2;exact ⟨⟨ba,bn,bc,bs,la,ln,lc,ls,sa,sn,sc,ss⟩,rfl,⟨hb,fun x hx=>(rb x hx).1,hl,hs⟩,fun x hx=>(rb x hx).2,rl,rs⟩
end

end

theorem zdU {K:World→Prop} {W:World} {o:Obj} (h:∀wx,wx.heap[W.heap.size]?=some o→Below W.heap.size W wx→K wx):K (W.alloc o):=h _ (zL W o) (zv W o)

theorem zcR {K:World→Prop} {W:World} {o:Obj} (h:∀wx,wx.heap[W.heap.size]?=some o→Below W.drew.heap.size W.drew wx→K wx):K (W.alloc o).drew:=h _ (zL W o) (zv W.drew o)

theorem zcF (R C H B P R' C' H' B' P':Int) (w:World):(binOp .eql 89 (.agg #[.int .i64 R,.int .i64 C,.int .i64 H,.int .i64 B,.int .i64 P]) (.agg #[.int .i64 R',.int .i64 C',.int .i64 H',.int .i64 B',.int .i64 P'])).run Try.prog w=.ok (.bool ((R == R') && ((C == C') && ((H == H') && ((B == B') && (P == P')))))) w:=by
 have u3:=Try.underlying3;have a3:=Try.isAgg3;have z3:=Try.sizeOf3;have hS:Try.prog.underlying 89=some (.struct (Try.prog.fieldsOf 89)):=by kernel_rfl
 have hp:Try.prog.stoodInHeld 89=false:=by kernel_rfl
 rw [run_eql_struct,show (10000:Nat)=9999+1 from rfl,run_equalIn_agg w 9999 89 _ _ hS hp];simp only [Program.fieldsOf,Try.underlying89];go_simp;by_cases h1:R=R' <;> by_cases h2:C=C' <;> by_cases h3:H=H' <;> by_cases h4:B=B' <;> by_cases h5:P=P' <;> simp [h1,h2,h3,h4,h5]

theorem zaP {w:World} {g:Nat} {T:TypeId} {c0 c1 c2 c3 c4 c5 c6 c7:Value} (h:w.heap[g]?=some (.cells #[c0,c1,c2,c3,c4,c5,c6,c7] T)) :
  w.cell? ⟨g,0,none⟩=some c0∧w.cell? ⟨g,1,none⟩=some c1∧w.cell? ⟨g,2,none⟩=some c2∧w.cell? ⟨g,3,none⟩=some c3∧w.cell? ⟨g,4,none⟩=some c4∧w.cell? ⟨g,5,none⟩=some c5∧w.cell? ⟨g,6,none⟩=some c6∧w.cell? ⟨g,7,none⟩=some c7:=by
 simp [World.cell?,h]

theorem zh {w:World} {g:Nat} {T:TypeId} {cs:Array Value} (h:w.heap[g]?=some (.cells cs T)) (j:Nat):w.frozen? ⟨g,j,none⟩=false:=by
 simp [World.frozen?,h]

theorem zeT (x:PT) (w:World) :
  Calls Try.prog 98 #[.agg #[.bool x.up,.int .i64 x.k,.bool x.has,.int .i64 x.v.r,.int .i64 x.v.c,.int .i64 x.v.h,.int .i64 x.v.b,.int .i64 x.v.p]] w fun r w'=>r=.returned (.agg #[.bool x.up,.int .i64 x.k,.bool x.has,.int .i64 x.v.r,.int .i64 x.v.c,.int .i64 x.v.h,.int .i64 x.v.b,.int .i64 x.v.p])∧Below w.heap.size w w':=by
 go_enter Try.func98,Try.ntmps98;go_wp2_with fail
 refine (zcb x.v.r x.v.c x.v.h x.v.b x.v.p _).mono ?_;rintro e w2 ⟨rfl,hb2⟩;obtain ⟨-,k1,k2⟩:=zV hb2;have HB0:=hide (zc (zy w _ _ _) hb2);clear hb2;obtain ⟨d0,d1,d2,d3,d4,d5,d6,d7⟩:=zaP k2;obtain ⟨e0,e1,e2,e3,e4,e5,e6,e7⟩:=zaP k1;have fr:∀j,w2.frozen? ⟨w.heap.size+1+1,j,none⟩=false:=fun j=>by simp [World.frozen?,k2]
 have gr:∀j,w2.frozen? ⟨w.heap.size+1,j,none⟩=false:=fun j=>by simp [World.frozen?,k1]
 have f3:=fr 3;have f4:=fr 4;have f5:=fr 5;have f6:=fr 6;have f7:=fr 7;have g0:=gr 0;have g1:=gr 1;have g2:=gr 2;have g3:=gr 3;have g4:=gr 4;have g5:=gr 5;have g6:=gr 6;have g7:=gr 7;have ne1:¬w.heap.size+1=w.heap.size+1+1:=by omega
 have ne2:¬w.heap.size+1+1=w.heap.size+1:=by omega
 have HB:=hide (ze (ze (ze (ze (ze (ze (ze (ze (ze (ze (ze (ze (ze HB0.out (g:=w.heap.size+1+1) (by omega) 3 (.int .i64 x.v.r)) (g:=w.heap.size+1+1) (by omega) 4 (.int .i64 x.v.c)) (g:=w.heap.size+1+1) (by omega) 5 (.int .i64 x.v.h)) (g:=w.heap.size+1+1) (by omega) 6 (.int .i64 x.v.b)) (g:=w.heap.size+1+1) (by omega) 7 (.int .i64 x.v.p)) (g:=w.heap.size+1) (by omega) 0 (.bool x.up)) (g:=w.heap.size+1) (by omega) 1 (.int .i64 x.k)) (g:=w.heap.size+1) (by omega) 2 (.bool x.has)) (g:=w.heap.size+1) (by omega) 3 (.int .i64 x.v.r)) (g:=w.heap.size+1) (by omega) 4 (.int .i64 x.v.c)) (g:=w.heap.size+1) (by omega) 5 (.int .i64 x.v.h)) (g:=w.heap.size+1) (by omega) 6 (.int .i64 x.v.b)) (g:=w.heap.size+1) (by omega) 7 (.int .i64 x.v.p));clear fr gr k1 k2;go_wp2;exact bodyPost_ret (v:=.agg #[.bool x.up,.int .i64 x.k,.bool x.has,.int .i64 x.v.r,.int .i64 x.v.c,.int .i64 x.v.h,.int .i64 x.v.b,.int .i64 x.v.p]) (by simp [results,Try.results98,go_sem, *]) rfl ⟨rfl,HB.out⟩

theorem zfu:(Try.prog.info? 91).map (fun i=>(i.zero,i.size,i.bytes))=some (some (.agg #[.bool false,.int .i64 0,.bool false,.int .i64 0,.int .i64 0,.int .i64 0,.int .i64 0,.int .i64 0]),8,64):=by kernel_rfl

def PT.zero:PT:=⟨false,0,false,⟨0,0,0,0,0⟩⟩

theorem at8h {w w':World} {b off n cap:Nat} {l:List PT} (h:GRow ptF w (some ⟨b,off,none⟩) n cap l) (hb:Below w.heap.size w w') {i:Nat} {x:PT} (hx:l[i]?=some x) :
  w'.cell? ⟨b,off+i*8,none⟩=some (.bool x.up)∧w'.cell? ⟨b,off+i*8+1,none⟩=some (.int .i64 x.k)∧w'.cell? ⟨b,off+i*8+2,none⟩=some (.bool x.has)∧w'.cell? ⟨b,off+i*8+3,none⟩=some (.int .i64 x.v.r)∧w'.cell? ⟨b,off+i*8+4,none⟩=some (.int .i64 x.v.c)∧w'.cell? ⟨b,off+i*8+5,none⟩=some (.int .i64 x.v.h)∧w'.cell? ⟨b,off+i*8+6,none⟩=some (.int .i64 x.v.b)∧w'.cell? ⟨b,off+i*8+7,none⟩=some (.int .i64 x.v.p):=by
 have hi:i < n:=by
  have:=(List.getElem?_eq_some_iff.1 hx).1
  have:=h.size
  omega
 obtain ⟨y,b',off',hy,e,c⟩:=pt_at (h.below hb) i hi;cases e;rw [hx] at hy;cases hy;exact c

theorem zfm {w:World} {base g n cap:Nat} {pre post:List PT} {x y:PT} (h:w.ownsRow base 91 8 (.slice (some ⟨g,0,none⟩) n cap) n (ptF.all (pre++x::post))) :
  ((((((((w.setCell ⟨g,pre.length*8,none⟩ (.bool y.up)).setCell ⟨g,pre.length*8+1,none⟩ (.int .i64 y.k)).setCell ⟨g,pre.length*8+2,none⟩ (.bool y.has)).setCell ⟨g,pre.length*8+3,none⟩ (.int .i64 y.v.r)).setCell ⟨g,pre.length*8+4,none⟩ (.int .i64 y.v.c)).setCell ⟨g,pre.length*8+5,none⟩ (.int .i64 y.v.h)).setCell ⟨g,pre.length*8+6,none⟩ (.int .i64 y.v.b)).setCell ⟨g,pre.length*8+7,none⟩ (.int .i64 y.v.p)).ownsRow base 91 8 (.slice (some ⟨g,0,none⟩) n cap) n (ptF.all (pre++y::post)):=by
 have R0:=zf (F:=ptF) (x':=⟨y.up,x.k,x.has,⟨x.v.r,x.v.c,x.v.h,x.v.b,x.v.p⟩⟩) h 0 (.bool y.up) (by decide) rfl;have R1:=zf (F:=ptF) (x':=⟨y.up,y.k,x.has,⟨x.v.r,x.v.c,x.v.h,x.v.b,x.v.p⟩⟩) R0 1 (.int .i64 y.k) (by decide) rfl;have R2:=zf (F:=ptF) (x':=⟨y.up,y.k,y.has,⟨x.v.r,x.v.c,x.v.h,x.v.b,x.v.p⟩⟩) R1 2 (.bool y.has) (by decide) rfl;have R3:=zf (F:=ptF) (x':=⟨y.up,y.k,y.has,⟨y.v.r,x.v.c,x.v.h,x.v.b,x.v.p⟩⟩) R2 3 (.int .i64 y.v.r) (by decide) rfl;have R4:=zf (F:=ptF) (x':=⟨y.up,y.k,y.has,⟨y.v.r,y.v.c,x.v.h,x.v.b,x.v.p⟩⟩) R3 4 (.int .i64 y.v.c) (by decide) rfl;have R5:=zf (F:=ptF) (x':=⟨y.up,y.k,y.has,⟨y.v.r,y.v.c,y.v.h,x.v.b,x.v.p⟩⟩) R4 5 (.int .i64 y.v.h) (by decide) rfl;have R6:=zf (F:=ptF) (x':=⟨y.up,y.k,y.has,⟨y.v.r,y.v.c,y.v.h,y.v.b,x.v.p⟩⟩) R5 6 (.int .i64 y.v.b) (by decide) rfl;exact zf (F:=ptF) (x':=y) R6 7 (.int .i64 y.v.p) (by decide) rfl

theorem zbZ {w:World} {g:Nat} (j0 j1 j2 j3 j4 j5 j6 j7:Nat) (u0 u1 u2 u3 u4 u5 u6 u7:Value):w.grownBy ((((((((w.setCell ⟨g,j0,none⟩ u0).setCell ⟨g,j1,none⟩ u1).setCell ⟨g,j2,none⟩ u2).setCell ⟨g,j3,none⟩ u3).setCell ⟨g,j4,none⟩ u4).setCell ⟨g,j5,none⟩ u5).setCell ⟨g,j6,none⟩ u6).setCell ⟨g,j7,none⟩ u7) (some g) :=
 zi (zi (zi (zi (zi (zi (zi (zd _ _) (zd _ _)) (zd _ _)) (zd _ _)) (zd _ _)) (zd _ _)) (zd _ _)) (zd _ _)

theorem zdY {w:World} {base g n cap:Nat} {T:TypeId} {l:List PT} (h:w.ownsRow base T 8 (.slice (some ⟨g,0,none⟩) n cap) n (ptF.all l)) {i:Nat} {x:PT} (hx:l[i]?=some x) :
  (w.cell? ⟨g,i*8,none⟩=some (.bool x.up)∧w.cell? ⟨g,i*8+1,none⟩=some (.int .i64 x.k)∧w.cell? ⟨g,i*8+2,none⟩=some (.bool x.has)∧w.cell? ⟨g,i*8+3,none⟩=some (.int .i64 x.v.r)∧w.cell? ⟨g,i*8+4,none⟩=some (.int .i64 x.v.c)∧w.cell? ⟨g,i*8+5,none⟩=some (.int .i64 x.v.h)∧w.cell? ⟨g,i*8+6,none⟩=some (.int .i64 x.v.b)∧w.cell? ⟨g,i*8+7,none⟩=some (.int .i64 x.v.p)) ∧
  (w.frozen? ⟨g,i*8,none⟩=false∧w.frozen? ⟨g,i*8+1,none⟩=false∧w.frozen? ⟨g,i*8+2,none⟩=false∧w.frozen? ⟨g,i*8+3,none⟩=false∧w.frozen? ⟨g,i*8+4,none⟩=false∧w.frozen? ⟨g,i*8+5,none⟩=false∧w.frozen? ⟨g,i*8+6,none⟩=false∧w.frozen? ⟨g,i*8+7,none⟩=false):=by
 have c0:=zm (F:=ptF) h hx (j:=0) (v:=.bool x.up) rfl;have c1:=zm (F:=ptF) h hx (j:=1) (v:=.int .i64 x.k) rfl;have c2:=zm (F:=ptF) h hx (j:=2) (v:=.bool x.has) rfl;have c3:=zm (F:=ptF) h hx (j:=3) (v:=.int .i64 x.v.r) rfl;have c4:=zm (F:=ptF) h hx (j:=4) (v:=.int .i64 x.v.c) rfl;have c5:=zm (F:=ptF) h hx (j:=5) (v:=.int .i64 x.v.h) rfl;have c6:=zm (F:=ptF) h hx (j:=6) (v:=.int .i64 x.v.b) rfl;have c7:=zm (F:=ptF) h hx (j:=7) (v:=.int .i64 x.v.p) rfl;exact ⟨⟨c0.1,c1.1,c2.1,c3.1,c4.1,c5.1,c6.1,c7.1⟩,c0.2,c1.2,c2.2,c3.2,c4.2,c5.2,c6.2,c7.2⟩

theorem zel (ao:Option Addr) (n c:Nat) (l:List PT) (w:World) (hl:GRow ptF w ao n c l) (hs:n≤1048576) :
  Calls Try.prog 79 #[.slice ao n c] w fun r w'=>∃ao' cap,r=.returned (.slice ao' n cap)∧w'.ownsRow w.heap.size 91 8 (.slice ao' n cap) n (ptF.all l)∧GRow ptF w' ao' n cap l∧Below w.heap.size w w':=by
 obtain ⟨i0,hi,hz0,hz1,hz2⟩:=z8 zfu;have s1:=hl.size;go_enter Try.func79,Try.ntmps79;go_wp2_with (at_make; refine wpList_make_full _ rfl _ _ 92 rfl w.heap.size 91 i0 (.agg #[.bool false,.int .i64 0,.bool false,.int .i64 0,.int .i64 0,.int .i64 0,.int .i64 0,.int .i64 0]) 8 Try.underlying92 hi hz0 hz1 .i64 .i64 _ _ n rfl rfl rfl rfl ?c1 ?c2 ?c3 ?_)
 case c1=>rw [hz2]; omega
 case c2=>unfold maxLen; omega
 case c3=>exact Nat.le_refl _
 intro w1 hown hgrow;have hb1:Below w.heap.size w w1:=(Below.refl _ _).grown hgrow (Nat.le_refl _) (by intro k hk; cases hk);have hown1:w1.ownsRow w.heap.size 91 8 (.slice (some ⟨w.heap.size,0,none⟩) n n) n (ptF.all (l.take 0++List.replicate (n - 0) PT.zero)):=by
  rw [List.take_zero,List.nil_append,Nat.sub_zero,← zaw]; exact hown
 clear hown hgrow hi hz0 hz1 hz2;go_wp2
 go_loopw [4] (fun i wr=>∃k:Nat,k≤n∧i=.int .i64 k∧wr.ownsRow w.heap.size 91 8 (.slice (some ⟨w.heap.size,0,none⟩) n n) n (ptF.all (l.take k++List.replicate (n - k) PT.zero))∧Below w.heap.size w wr) (fun i _=>n - (intOf i).toNat)
 case atStart=>exact ⟨0,Nat.zero_le _,rfl,hown1,hb1⟩
 case round =>
  obtain ⟨k,hk,rfl,ho,hb⟩:=hrel;clear hown1 hb1;by_cases hlt:k < n
  ·obtain ⟨x,b,off,hx,rfl,a0,a1,a2,a3,a4,a5,a6,a7⟩:=pt_at (hl.below hb) k hlt;have hrep:List.replicate (n - k) PT.zero=PT.zero::List.replicate (n - (k+1)) PT.zero:=by rw [← List.replicate_succ]; congr 1; omega
   have hlk:(l.take k).length=k:=by rw [List.length_take]; omega
   rw [hrep] at ho;have htk:l.take (k+1)=l.take k++[x]:=by rw [List.take_add_one,hx]; rfl
   have HTK:=hide htk;have HB:=hide hb;have HO:=hide ho;have HX:=hide hx;clear hb ho htk hx;(go_wp2_with fail);refine (zeT x _).mono ?_;rintro r w2 ⟨rfl,hb2⟩;have ho2:=zn HO.out hb2;have hz:(l.take k++PT.zero::List.replicate (n - (k+1)) PT.zero)[k]?=some PT.zero:=by rw [List.getElem?_append_right (by omega),hlk,Nat.sub_self]; rfl
   obtain ⟨⟨t0,t1,t2,t3,t4,t5,t6,t7⟩,f0,f1,f2,f3,f4,f5,f6,f7⟩:=zdY ho2 hz;have o3:=zfm (y:=x) ho2;rw [hlk] at o3;have HO3:=hide o3;have hb3:=zc HB.out hb2;have HB3:=hide (hb3.grown (zbZ (w:=w2) (g:=w.heap.size) (k*8) (k*8+1) (k*8+2) (k*8+3) (k*8+4) (k*8+5) (k*8+6) (k*8+7) (.bool x.up) (.int .i64 x.k) (.bool x.has) (.int .i64 x.v.r) (.int .i64 x.v.c) (.int .i64 x.v.h) (.int .i64 x.v.b) (.int .i64 x.v.p)) hb3.size (by intro j e; cases e; exact Nat.le_refl _));clear ho2 hb2 hb3 o3 hz a0 a1 a2 a3 a4 a5 a6 a7;go_wp2
   go_roundw
   case rel=>exact ⟨k+1,by omega,by go_num,by rw [HTK.out,List.append_assoc]; exact HO3.out,HB3.out⟩
   case measure=>simp [intOf]; omega
  ·have hkn:k=n:=by omega
   subst hkn;rw [Nat.sub_self,List.take_of_length_le (by omega),List.replicate_zero,List.append_nil] at ho;have HO:=hide ho;have HR:=hide (zG ho);have HB:=hide hb;clear ho hb;go_wp2;go_ret;exact ⟨_,_,rfl,HO.out,HR.out,HB.out⟩

theorem zev (x:PT) (w:World) :
  Calls Try.prog 102 #[.agg #[.bool x.up,.int .i64 x.k,.bool x.has,.int .i64 x.v.r,.int .i64 x.v.c,.int .i64 x.v.h,.int .i64 x.v.b,.int .i64 x.v.p],.agg #[.bool x.up,.int .i64 x.k,.bool x.has,.int .i64 x.v.r,.int .i64 x.v.c,.int .i64 x.v.h,.int .i64 x.v.b,.int .i64 x.v.p]] w fun r w'=>r=.returned (.bool true)∧Below w.heap.size w w':=by
 go_enter Try.func102,Try.ntmps102;go_wp2_with fail
 refine (zbU x.v.r x.v.c x.v.h x.v.b x.v.p _).mono ?_;rintro e w2 ⟨rfl,hb2⟩;have HB:=hide (zc (zF _ _ _) hb2);clear hb2;go_wp2;go_ret;exact ⟨rfl,HB.out⟩

theorem zeS (ao:Option Addr) (n c:Nat) (left:Int) (w:World) (hl:n≤maxLen) (h0:0≤left) (h1:left≤1048576) :
  Calls Try.prog 75 #[.slice ao n c,.int .i64 left] w fun r w'=>r=.returned (.int .i64 (if (n:Int)≤left then left - n else -1))∧w'=w:=by
 unfold maxLen at hl;go_enter Try.func75,Try.ntmps75;go_wp2
 all_goals go_ret
 all_goals exact ⟨rfl,rfl⟩

theorem zd9 (ao:Option Addr) (n c:Nat) (ao':Option Addr) (n' c':Nat) (l:List PT) (w:World) (hl:GRow ptF w ao n c l) (hl':GRow ptF w ao' n' c' l) :
  Calls Try.prog 85 #[.slice ao n c,.slice ao' n' c'] w fun r w'=>r=.returned (.bool true)∧Below w.heap.size w w':=by
 have hs:=hl.size;have hs':=hl'.size;have htop:=Nat.le_trans hl.le hl.top;unfold maxLen at htop;have hnn:n'=n:=by omega
 subst hnn;go_enter Try.func85,Try.ntmps85;go_wp2
 go_loopw [5] (fun i wr=>∃k:Nat,k≤n'∧i=.int .i64 k∧Below w.heap.size w wr) (fun i _=>n' - (intOf i).toNat)
 case atStart=>exact ⟨0,Nat.zero_le _,rfl,Below.refl _ _⟩
 case round =>
  obtain ⟨k,hk,rfl,hb⟩:=hrel;by_cases hlt:k < n'
  ·obtain ⟨x,b,off,hx,rfl,a0,a1,a2,a3,a4,a5,a6,a7⟩:=pt_at (hl.below hb) k hlt;obtain ⟨y,b',off',hy,rfl,e0,e1,e2,e3,e4,e5,e6,e7⟩:=pt_at (hl'.below hb) k hlt;rw [hx] at hy;cases hy;have CX:Hid (∀W,Below wr.heap.size wr W→_∧_):=fun W h=>⟨at8h (hl.below hb) h hx,at8h (hl'.below hb) h hx⟩
   have HB:=hide hb;clear hb;(go_wp2_with fail)
   go_region_held3 (fun W=>(W.cell? ⟨b,off+k*8,none⟩=some (.bool x.up)∧W.cell? ⟨b,off+k*8+1,none⟩=some (.int .i64 x.k)∧W.cell? ⟨b,off+k*8+2,none⟩=some (.bool x.has)∧W.cell? ⟨b,off+k*8+3,none⟩=some (.int .i64 x.v.r)∧W.cell? ⟨b,off+k*8+4,none⟩=some (.int .i64 x.v.c)∧W.cell? ⟨b,off+k*8+5,none⟩=some (.int .i64 x.v.h)∧W.cell? ⟨b,off+k*8+6,none⟩=some (.int .i64 x.v.b)∧W.cell? ⟨b,off+k*8+7,none⟩=some (.int .i64 x.v.p))∧(W.cell? ⟨b',off'+k*8,none⟩=some (.bool x.up)∧W.cell? ⟨b',off'+k*8+1,none⟩=some (.int .i64 x.k)∧W.cell? ⟨b',off'+k*8+2,none⟩=some (.bool x.has)∧W.cell? ⟨b',off'+k*8+3,none⟩=some (.int .i64 x.v.r)∧W.cell? ⟨b',off'+k*8+4,none⟩=some (.int .i64 x.v.c)∧W.cell? ⟨b',off'+k*8+5,none⟩=some (.int .i64 x.v.h)∧W.cell? ⟨b',off'+k*8+6,none⟩=some (.int .i64 x.v.b)∧W.cell? ⟨b',off'+k*8+7,none⟩=some (.int .i64 x.v.p))) (first | exact CX.out _ u1 | go_keep) (first
    | (go_at_call 102; refine (zev x _).mono ?_; rintro r w1 ⟨rfl,hb1⟩; have u1:Below wr.heap.size wr w1:=undrew hb1))
   have b1:=zc HB.out u1;clear u1 hb1 a0 a1 a2 a3 a4 a5 a6 a7 e0 e1 e2 e3 e4 e5 e6 e7;go_wp2
   go_roundw
   case rel=>exact ⟨k+1,by omega,by go_num,b1⟩
   case measure=>simp [intOf]; omega
  ·have hk':k=n':=by omega
   subst hk';go_wp2;go_ret;exact ⟨rfl,hb⟩

def markP (k:Int):PT:=⟨(k) % 3 == 0,k+1,(k+1+1) % 3 == 0,⟨k+1+1+1,k+1+1+1+1,k+1+1+1+1+1,k+1+1+1+1+1+1,k+1+1+1+1+1+1+1⟩⟩
def zR (k:Int) (n:Nat):List PT:=(List.range n).map fun (i:Nat)=>markP (k+8*i)

theorem zcr (k:Int) (n:Nat):(zR k n).length=n:=by simp [zR]
theorem zdq (k:Int) (j:Nat):zR k (j+1)=zR k j++[markP (k+8*j)]:=by simp [zR,List.range_succ]
theorem zfD (k:Int) (n j:Nat) (h:j < n):(zR k n)[j]?=some (markP (k+8*j)):=by simp [zR,List.getElem?_map,List.getElem?_range h]

theorem zed (base g n cap:Nat) (l:List PT) (k:Int) (w:World) (hown:w.ownsRow base 91 8 (.slice (some ⟨g,0,none⟩) n cap) n (ptF.all l)) (hn:n≤16777216) (hk0:0≤k) (hk1:k≤1099511627776) :
  Calls Try.prog 65 #[.slice (some ⟨g,0,none⟩) n cap,.int .i64 k] w fun r w'=>r=.returned (.int .i64 (k+8*n))∧w'.ownsRow base 91 8 (.slice (some ⟨g,0,none⟩) n cap) n (ptF.all (zR k n))∧w.grownBy w' (some g):=by
 have hl:l.length=n:=(zG (F:=ptF) hown).size;go_enter Try.func65,Try.ntmps65;go_wp2
 go_loopw [1,5] (fun m i wr=>∃j:Nat,j≤n∧i=.int .i64 j∧m=.int .i64 (k+8*j)∧wr.ownsRow base 91 8 (.slice (some ⟨g,0,none⟩) n cap) n (ptF.all (zR k j++l.drop j))∧w.grownBy wr (some g)) (fun _ i _=>n - (intOf i).toNat)
 case atStart=>exact ⟨0,Nat.zero_le _,rfl,by simp,by simpa [zR] using hown,World.grownBy.refl _ _⟩
 case round =>
  obtain ⟨j,hj,rfl,rfl,how,hg⟩:=hrel;by_cases hlt:j < n
  ·obtain ⟨x,hx⟩:∃x,l[j]?=some x:=⟨l[j]'(by omega),List.getElem?_eq_getElem (by omega)⟩;have hdr:l.drop j=x::l.drop (j+1):=by
    obtain ⟨h,rfl⟩:=List.getElem?_eq_some_iff.1 hx;exact List.drop_eq_getElem_cons h
   rw [hdr] at how;have hlj:=zcr k j;have hz:(zR k j++x::l.drop (j+1))[j]?=some x:=by rw [List.getElem?_append_right (by omega),hlj,Nat.sub_self]; rfl
   obtain ⟨⟨t0,t1,t2,t3,t4,t5,t6,t7⟩,f0,f1,f2,f3,f4,f5,f6,f7⟩:=zdY how hz;have o3:=zfm (y:=markP (k+8*j)) how;rw [hlj] at o3;have HO3:=hide o3;have HG:=hide (zi hg (zbZ (w:=wr) (g:=g) (j*8) (j*8+1) (j*8+2) (j*8+3) (j*8+4) (j*8+5) (j*8+6) (j*8+7) (.bool (markP (k+8*j)).up) (.int .i64 (markP (k+8*j)).k) (.bool (markP (k+8*j)).has) (.int .i64 (markP (k+8*j)).v.r) (.int .i64 (markP (k+8*j)).v.c) (.int .i64 (markP (k+8*j)).v.h) (.int .i64 (markP (k+8*j)).v.b) (.int .i64 (markP (k+8*j)).v.p)));have HM:=hide (zdq k j);have hm:0≤k+8*(j:Int)∧k+8*(j:Int)≤2199023255552:=by omega
   clear how hg hown o3 hz hdr;generalize hK:k+8*(j:Int)=K at *;go_wp2
   go_roundw
   case rel=>exact ⟨j+1,by omega,by go_num,by simp; omega,by rw [HM.out,List.append_assoc]; exact HO3.out,HG.out⟩
   case measure=>simp [intOf]; omega
  ·have hj':j=n:=by omega
   subst hj';rw [List.drop_eq_nil_of_le (by omega),List.append_nil] at how;have HO:=hide how;clear how hown;go_wp2;go_ret;exact ⟨rfl,HO.out,hg⟩

theorem zdr (k:Int) (c:Nat) (w:World) :
  Calls Try.prog 65 #[.slice none 0 c,.int .i64 k] w fun r w'=>r=.returned (.int .i64 k)∧w'=w:=by
 go_enter Try.func65,Try.ntmps65;go_wp2
 go_loop [1,5] (fun m i=>m=.int .i64 k∧i=.int .i64 0) (fun _ _=>0)
 case atStart=>exact ⟨rfl,rfl⟩
 case round =>
  obtain ⟨rfl,rfl⟩:=hrel;go_wp2;go_ret;exact ⟨rfl,rfl⟩

theorem zcs (base:Nat) (ao:Option Addr) (n cap:Nat) (l:List PT) (k:Int) (w:World) (hown:w.ownsRow base 91 8 (.slice ao n cap) n (ptF.all l)) (hn:n≤16777216) (hk0:0≤k) (hk1:k≤1099511627776) :
  Calls Try.prog 65 #[.slice ao n cap,.int .i64 k] w fun r w'=>r=.returned (.int .i64 (k+8*n))∧w'.ownsRow base 91 8 (.slice ao n cap) n (ptF.all (zR k n))∧w.grownBy w' (Value.slice ao n cap).ownBlock:=by
 rcases hown.2 with ⟨e,h0⟩ | ⟨g,cap',cur,e,-⟩
 ·cases e;refine (zdr k 0 w).mono ?_;rintro r w' ⟨rfl,rfl⟩;exact ⟨by simp,by simpa [zR,Flat.all] using World.ownsRow_nil w' base 91 8,World.grownBy.refl _ _⟩
 ·cases e;exact zed base g n cap l k w hown hn hk0 hk1

theorem zdJ (e:VR) (w:World) :
  Calls Try.prog 119 #[.agg #[.int .i64 e.i,.int .i64 e.m,.int .i64 e.b]] w fun r w'=>r=.returned (.agg #[.int .i64 e.i,.int .i64 e.m,.int .i64 e.b])∧Below w.heap.size w w':=by
 go_enter Try.func119,Try.ntmps119;go_wp2;exact bodyPost_ret (v:=.agg #[.int .i64 e.i,.int .i64 e.m,.int .i64 e.b]) (by simp [results,Try.results119,go_sem, *]) rfl ⟨rfl,zy _ _ _ _⟩

theorem zeV:(Try.prog.info? 149).map (fun i=>(i.zero,i.size,i.bytes))=some (some (.agg #[.int .i64 0,.int .i64 0,.int .i64 0]),3,24):=by kernel_rfl

def VR.zero:VR:=⟨0,0,0⟩

theorem at3h {w w':World} {b off n cap:Nat} {l:List VR} (h:GRow vrowF w (some ⟨b,off,none⟩) n cap l) (hb:Below w.heap.size w w') {i:Nat} {x:VR} (hx:l[i]?=some x) :
  w'.cell? ⟨b,off+i*3,none⟩=some (.int .i64 x.i)∧w'.cell? ⟨b,off+i*3+1,none⟩=some (.int .i64 x.m)∧w'.cell? ⟨b,off+i*3+2,none⟩=some (.int .i64 x.b):=by
 have hi:i < n:=by
  have:=(List.getElem?_eq_some_iff.1 hx).1
  have:=h.size
  omega
 obtain ⟨y,b',off',hy,e,c⟩:=zcG (h.below hb) i hi;cases e;rw [hx] at hy;cases hy;exact c

theorem zd5 {w:World} {base g n cap:Nat} {pre post:List VR} {x y:VR} (h:w.ownsRow base 149 3 (.slice (some ⟨g,0,none⟩) n cap) n (vrowF.all (pre++x::post))) :
  (((w.setCell ⟨g,pre.length*3,none⟩ (.int .i64 y.i)).setCell ⟨g,pre.length*3+1,none⟩ (.int .i64 y.m)).setCell ⟨g,pre.length*3+2,none⟩ (.int .i64 y.b)).ownsRow base 149 3 (.slice (some ⟨g,0,none⟩) n cap) n (vrowF.all (pre++y::post)):=by
 have R0:=zf (F:=vrowF) (x':=⟨y.i,x.m,x.b⟩) h 0 (.int .i64 y.i) (by decide) rfl;have R1:=zf (F:=vrowF) (x':=⟨y.i,y.m,x.b⟩) R0 1 (.int .i64 y.m) (by decide) rfl;exact zf (F:=vrowF) (x':=y) R1 2 (.int .i64 y.b) (by decide) rfl

theorem zbX {w:World} {g:Nat} (j0 j1 j2:Nat) (u0 u1 u2:Value):w.grownBy (((w.setCell ⟨g,j0,none⟩ u0).setCell ⟨g,j1,none⟩ u1).setCell ⟨g,j2,none⟩ u2) (some g) :=
 zi (zi (zd _ _) (zd _ _)) (zd _ _)

theorem zcc {w:World} {base g n cap:Nat} {T:TypeId} {l:List VR} (h:w.ownsRow base T 3 (.slice (some ⟨g,0,none⟩) n cap) n (vrowF.all l)) {i:Nat} {x:VR} (hx:l[i]?=some x) :
  (w.cell? ⟨g,i*3,none⟩=some (.int .i64 x.i)∧w.cell? ⟨g,i*3+1,none⟩=some (.int .i64 x.m)∧w.cell? ⟨g,i*3+2,none⟩=some (.int .i64 x.b)) ∧
  (w.frozen? ⟨g,i*3,none⟩=false∧w.frozen? ⟨g,i*3+1,none⟩=false∧w.frozen? ⟨g,i*3+2,none⟩=false):=by
 have c0:=zm (F:=vrowF) h hx (j:=0) (v:=.int .i64 x.i) rfl;have c1:=zm (F:=vrowF) h hx (j:=1) (v:=.int .i64 x.m) rfl;have c2:=zm (F:=vrowF) h hx (j:=2) (v:=.int .i64 x.b) rfl;exact ⟨⟨c0.1,c1.1,c2.1⟩,c0.2,c1.2,c2.2⟩

theorem zc9 (ao:Option Addr) (n c:Nat) (l:List VR) (w:World) (hl:GRow vrowF w ao n c l) (hs:n≤1048576) :
  Calls Try.prog 100 #[.slice ao n c] w fun r w'=>∃ao' cap,r=.returned (.slice ao' n cap)∧w'.ownsRow w.heap.size 149 3 (.slice ao' n cap) n (vrowF.all l)∧GRow vrowF w' ao' n cap l∧Below w.heap.size w w':=by
 obtain ⟨i0,hi,hz0,hz1,hz2⟩:=z8 zeV;have s1:=hl.size;go_enter Try.func100,Try.ntmps100;go_wp2_with (at_make; refine wpList_make_full _ rfl _ _ 94 rfl w.heap.size 149 i0 (.agg #[.int .i64 0,.int .i64 0,.int .i64 0]) 3 Try.underlying94 hi hz0 hz1 .i64 .i64 _ _ n rfl rfl rfl rfl ?c1 ?c2 ?c3 ?_)
 case c1=>rw [hz2]; omega
 case c2=>unfold maxLen; omega
 case c3=>exact Nat.le_refl _
 intro w1 hown hgrow;have hb1:Below w.heap.size w w1:=(Below.refl _ _).grown hgrow (Nat.le_refl _) (by intro k hk; cases hk);have hown1:w1.ownsRow w.heap.size 149 3 (.slice (some ⟨w.heap.size,0,none⟩) n n) n (vrowF.all (l.take 0++List.replicate (n - 0) VR.zero)):=by
  rw [List.take_zero,List.nil_append,Nat.sub_zero,← zaw]; exact hown
 clear hown hgrow hi hz0 hz1 hz2;go_wp2
 go_loopw [4] (fun i wr=>∃k:Nat,k≤n∧i=.int .i64 k∧wr.ownsRow w.heap.size 149 3 (.slice (some ⟨w.heap.size,0,none⟩) n n) n (vrowF.all (l.take k++List.replicate (n - k) VR.zero))∧Below w.heap.size w wr) (fun i _=>n - (intOf i).toNat)
 case atStart=>exact ⟨0,Nat.zero_le _,rfl,hown1,hb1⟩
 case round =>
  obtain ⟨k,hk,rfl,ho,hb⟩:=hrel;clear hown1 hb1;by_cases hlt:k < n
  ·obtain ⟨x,b,off,hx,rfl,a0,a1,a2⟩:=zcG (hl.below hb) k hlt;have hrep:List.replicate (n - k) VR.zero=VR.zero::List.replicate (n - (k+1)) VR.zero:=by rw [← List.replicate_succ]; congr 1; omega
   have hlk:(l.take k).length=k:=by rw [List.length_take]; omega
   rw [hrep] at ho;have htk:l.take (k+1)=l.take k++[x]:=by rw [List.take_add_one,hx]; rfl
   have HTK:=hide htk;have HB:=hide hb;have HO:=hide ho;have HX:=hide hx;clear hb ho htk hx;(go_wp2_with fail);refine (zdJ x _).mono ?_;rintro r w2 ⟨rfl,hb2⟩;have ho2:=zn HO.out hb2;have hz:(l.take k++VR.zero::List.replicate (n - (k+1)) VR.zero)[k]?=some VR.zero:=by rw [List.getElem?_append_right (by omega),hlk,Nat.sub_self]; rfl
   obtain ⟨⟨t0,t1,t2⟩,f0,f1,f2⟩:=zcc ho2 hz;have o3:=zd5 (y:=x) ho2;rw [hlk] at o3;have HO3:=hide o3;have hb3:=zc HB.out hb2;have HB3:=hide (hb3.grown (zbX (w:=w2) (g:=w.heap.size) (k*3) (k*3+1) (k*3+2) (.int .i64 x.i) (.int .i64 x.m) (.int .i64 x.b)) hb3.size (by intro j e; cases e; exact Nat.le_refl _));clear ho2 hb2 hb3 o3 hz a0 a1 a2;go_wp2
   go_roundw
   case rel=>exact ⟨k+1,by omega,by go_num,by rw [HTK.out,List.append_assoc]; exact HO3.out,HB3.out⟩
   case measure=>simp [intOf]; omega
  ·have hkn:k=n:=by omega
   subst hkn;rw [Nat.sub_self,List.take_of_length_le (by omega),List.replicate_zero,List.append_nil] at ho;have HO:=hide ho;have HR:=hide (zG ho);have HB:=hide hb;clear ho hb;go_wp2;go_ret;exact ⟨_,_,rfl,HO.out,HR.out,HB.out⟩

theorem zdi (e:VR) (w:World) :
  Calls Try.prog 121 #[.agg #[.int .i64 e.i,.int .i64 e.m,.int .i64 e.b],.agg #[.int .i64 e.i,.int .i64 e.m,.int .i64 e.b]] w fun r w'=>r=.returned (.bool true)∧Below w.heap.size w w':=by
 go_enter Try.func121,Try.ntmps121;go_wp2;go_ret;exact ⟨rfl,zF _ _ _⟩

theorem zdF (ao:Option Addr) (n c:Nat) (left:Int) (w:World) (hl:n≤maxLen) (h0:0≤left) (h1:left≤1048576) :
  Calls Try.prog 95 #[.slice ao n c,.int .i64 left] w fun r w'=>r=.returned (.int .i64 (if (n:Int)≤left then left - n else -1))∧w'=w:=by
 unfold maxLen at hl;go_enter Try.func95,Try.ntmps95;go_wp2
 all_goals go_ret
 all_goals exact ⟨rfl,rfl⟩

theorem zdD (ao:Option Addr) (n c:Nat) (left:Int) (w:World) (hl:n≤maxLen) (h0:0≤left) (h1:left≤1048576) :
  Calls Try.prog 96 #[.slice ao n c,.int .i64 left] w fun r w'=>r=.returned (.int .i64 (if (n:Int)≤left then left - n else -1))∧w'=w:=by
 unfold maxLen at hl;go_enter Try.func96,Try.ntmps96;go_wp2
 all_goals go_ret
 all_goals exact ⟨rfl,rfl⟩

def markR (k:Int):VR:=⟨k,k+1,k+1+1⟩
def zZ (k:Int) (n:Nat):List VR:=(List.range n).map fun (i:Nat)=>markR (k+3*i)

theorem zct (k:Int) (n:Nat):(zZ k n).length=n:=by simp [zZ]
theorem zds (k:Int) (j:Nat):zZ k (j+1)=zZ k j++[markR (k+3*j)]:=by simp [zZ,List.range_succ]
theorem zfE (k:Int) (n j:Nat) (h:j < n):(zZ k n)[j]?=some (markR (k+3*j)):=by simp [zZ,List.getElem?_map,List.getElem?_range h]

theorem zcZ (base g n cap:Nat) (l:List VR) (k:Int) (w:World) (hown:w.ownsRow base 149 3 (.slice (some ⟨g,0,none⟩) n cap) n (vrowF.all l)) (hn:n≤16777216) (hk0:0≤k) (hk1:k≤1099511627776) :
  Calls Try.prog 67 #[.slice (some ⟨g,0,none⟩) n cap,.int .i64 k] w fun r w'=>r=.returned (.int .i64 (k+3*n))∧w'.ownsRow base 149 3 (.slice (some ⟨g,0,none⟩) n cap) n (vrowF.all (zZ k n))∧w.grownBy w' (some g):=by
 have hl:l.length=n:=(zG (F:=vrowF) hown).size;go_enter Try.func67,Try.ntmps67;go_wp2
 go_loopw [1,5] (fun m i wr=>∃j:Nat,j≤n∧i=.int .i64 j∧m=.int .i64 (k+3*j)∧wr.ownsRow base 149 3 (.slice (some ⟨g,0,none⟩) n cap) n (vrowF.all (zZ k j++l.drop j))∧w.grownBy wr (some g)) (fun _ i _=>n - (intOf i).toNat)
 case atStart=>exact ⟨0,Nat.zero_le _,rfl,by simp,by simpa [zZ] using hown,World.grownBy.refl _ _⟩
 case round =>
  obtain ⟨j,hj,rfl,rfl,how,hg⟩:=hrel;by_cases hlt:j < n
  ·obtain ⟨x,hx⟩:∃x,l[j]?=some x:=⟨l[j]'(by omega),List.getElem?_eq_getElem (by omega)⟩;have hdr:l.drop j=x::l.drop (j+1):=by
    obtain ⟨h,rfl⟩:=List.getElem?_eq_some_iff.1 hx;exact List.drop_eq_getElem_cons h
   rw [hdr] at how;have hlj:=zct k j;have hz:(zZ k j++x::l.drop (j+1))[j]?=some x:=by rw [List.getElem?_append_right (by omega),hlj,Nat.sub_self]; rfl
   obtain ⟨⟨t0,t1,t2⟩,f0,f1,f2⟩:=zcc how hz;have o3:=zd5 (y:=markR (k+3*j)) how;rw [hlj] at o3;have HO3:=hide o3;have HG:=hide (zi hg (zbX (w:=wr) (g:=g) (j*3) (j*3+1) (j*3+2) (.int .i64 (markR (k+3*j)).i) (.int .i64 (markR (k+3*j)).m) (.int .i64 (markR (k+3*j)).b)));have HM:=hide (zds k j);have hm:0≤k+3*(j:Int)∧k+3*(j:Int)≤2199023255552:=by omega
   clear how hg hown o3 hz hdr;generalize hK:k+3*(j:Int)=K at *;go_wp2
   go_roundw
   case rel=>exact ⟨j+1,by omega,by go_num,by simp; omega,by rw [HM.out,List.append_assoc]; exact HO3.out,HG.out⟩
   case measure=>simp [intOf]; omega
  ·have hj':j=n:=by omega
   subst hj';rw [List.drop_eq_nil_of_le (by omega),List.append_nil] at how;have HO:=hide how;clear how hown;go_wp2;go_ret;exact ⟨rfl,HO.out,hg⟩

theorem zcv (k:Int) (c:Nat) (w:World) :
  Calls Try.prog 67 #[.slice none 0 c,.int .i64 k] w fun r w'=>r=.returned (.int .i64 k)∧w'=w:=by
 go_enter Try.func67,Try.ntmps67;go_wp2
 go_loop [1,5] (fun m i=>m=.int .i64 k∧i=.int .i64 0) (fun _ _=>0)
 case atStart=>exact ⟨rfl,rfl⟩
 case round =>
  obtain ⟨rfl,rfl⟩:=hrel;go_wp2;go_ret;exact ⟨rfl,rfl⟩

theorem zbE (base:Nat) (ao:Option Addr) (n cap:Nat) (l:List VR) (k:Int) (w:World) (hown:w.ownsRow base 149 3 (.slice ao n cap) n (vrowF.all l)) (hn:n≤16777216) (hk0:0≤k) (hk1:k≤1099511627776) :
  Calls Try.prog 67 #[.slice ao n cap,.int .i64 k] w fun r w'=>r=.returned (.int .i64 (k+3*n))∧w'.ownsRow base 149 3 (.slice ao n cap) n (vrowF.all (zZ k n))∧w.grownBy w' (Value.slice ao n cap).ownBlock:=by
 rcases hown.2 with ⟨e,h0⟩ | ⟨g,cap',cur,e,-⟩
 ·cases e;refine (zcv k 0 w).mono ?_;rintro r w' ⟨rfl,rfl⟩;exact ⟨by simp,by simpa [zZ,Flat.all] using World.ownsRow_nil w' base 149 3,World.grownBy.refl _ _⟩
 ·cases e;exact zcZ base g n cap l k w hown hn hk0 hk1

theorem zcK (ao:Option Addr) (n c:Nat) (ao':Option Addr) (n' c':Nat) (l:List VR) (w:World) (hl:GRow vrowF w ao n c l) (hl':GRow vrowF w ao' n' c' l) :
  Calls Try.prog 104 #[.slice ao n c,.slice ao' n' c'] w fun r w'=>r=.returned (.bool true)∧Below w.heap.size w w':=by
 have hs:=hl.size;have hs':=hl'.size;have htop:=Nat.le_trans hl.le hl.top;unfold maxLen at htop;have hnn:n'=n:=by omega
 subst hnn;go_enter Try.func104,Try.ntmps104;go_wp2
 go_loopw [5] (fun i wr=>∃k:Nat,k≤n'∧i=.int .i64 k∧Below w.heap.size w wr) (fun i _=>n' - (intOf i).toNat)
 case atStart=>exact ⟨0,Nat.zero_le _,rfl,Below.refl _ _⟩
 case round =>
  obtain ⟨k,hk,rfl,hb⟩:=hrel;by_cases hlt:k < n'
  ·obtain ⟨x,b,off,hx,rfl,a0,a1,a2⟩:=zcG (hl.below hb) k hlt;obtain ⟨y,b',off',hy,rfl,e0,e1,e2⟩:=zcG (hl'.below hb) k hlt;rw [hx] at hy;cases hy;have HS:Hid (∀W,Below wr.heap.size wr W→(W.cell? ⟨b,off+k*3,none⟩=some (.int .i64 x.i)∧W.cell? ⟨b,off+k*3+1,none⟩=some (.int .i64 x.m)∧W.cell? ⟨b,off+k*3+2,none⟩=some (.int .i64 x.b))∧(W.cell? ⟨b',off'+k*3,none⟩=some (.int .i64 x.i)∧W.cell? ⟨b',off'+k*3+1,none⟩=some (.int .i64 x.m)∧W.cell? ⟨b',off'+k*3+2,none⟩=some (.int .i64 x.b))):=hide (fun W h=>⟨at3h (hl.below hb) h hx,at3h (hl'.below hb) h hx⟩);have vv:Below wr.heap.size wr wr.drew:=zC (Below.refl _ _);have i1:(0:Int)≤(k:Int):=by omega
   have i2:(k:Int) < (n':Int):=by omega
   have HB:=hide hb;clear hb a0 a1 a2 e0 e1 e2 hx;(go_wp2_with fail);refine wp_region_held_drew (S:=(fun W=>(W.cell? ⟨b,off+k*3,none⟩=some (.int .i64 x.i)∧W.cell? ⟨b,off+k*3+1,none⟩=some (.int .i64 x.m)∧W.cell? ⟨b,off+k*3+2,none⟩=some (.int .i64 x.b))∧(W.cell? ⟨b',off'+k*3,none⟩=some (.int .i64 x.i)∧W.cell? ⟨b',off'+k*3+1,none⟩=some (.int .i64 x.m)∧W.cell? ⟨b',off'+k*3+2,none⟩=some (.int .i64 x.b)))) (by kernel_rfl) (HS.out _ vv) (fun hHeld => ?_);refine kK 0 ⟨some 17,.move (.tmp 0),94,"exact.go:657",#[],none⟩ ?_;refine kK 1 ⟨some 18,.move (.tmp 5),3,"exact.go:657",#[],none⟩ ?_;refine kK 2 ⟨some 19,.indexAddr 94 (.tmp 17) (.tmp 18),0,"exact.go:657",#[⟨0,.data⟩,⟨1,.data⟩],none⟩ ?_;refine kK 3 ⟨some 20,.load 149 (.tmp 19),149,"exact.go:657",#[⟨2,.data⟩],none⟩ ?_;refine kK 4 ⟨some 21,.move (.tmp 1),94,"exact.go:657",#[],none⟩ ?_;refine kK 5 ⟨some 22,.move (.tmp 5),3,"exact.go:657",#[],none⟩ ?_;refine kK 6 ⟨some 23,.indexAddr 94 (.tmp 21) (.tmp 22),0,"exact.go:657",#[⟨4,.data⟩,⟨5,.data⟩],none⟩ ?_;refine kK 7 ⟨some 24,.load 149 (.tmp 23),149,"exact.go:657",#[⟨6,.data⟩],none⟩ ?_;refine kR 8 ⟨some 25,.call ⟨.value (.func 121),#[.tmp 20,.tmp 24],#[149,149]⟩,4,"exact.go:657",#[⟨3,.data⟩,⟨7,.data⟩],none⟩ (fun K hK => ?_);go_simp;refine (zdi x _).mono ?_;rintro r wz ⟨rfl,hbz⟩;have vv:=zc vv hbz;(go_wp2_with fail);refine hK.out _ _ (HS.out _ vv) (fun hHeld => ?_);clear hK K;(try simp only [Act.put,lA,lB,lC]);refine kK 9 ⟨some 26,.unOp .not 4 (.tmp 25),4,"exact.go:657",#[⟨8,.data⟩],none⟩ ?_;refine wpAnyH_done (by kernel_rfl) ?_ _;have b1:=zc HB.out vv;clear HS hHeld vv;go_wp2
   go_roundw
   case rel=>exact ⟨k+1,by omega,by go_num,b1⟩
   case measure=>simp [intOf]; omega
  ·have hk':k=n':=by omega
   subst hk';go_wp2;go_ret;exact ⟨rfl,hb⟩

theorem zA (n lo hi:Int) (w:World):Calls Try.prog 53 #[.int .i64 n,.int .i64 lo,.int .i64 hi] w fun e w'=>e=.returned (.bool (decide (lo≤n) && decide (n≤hi)))∧w'=w:=by
 by_cases h1:lo≤n
 ·by_cases h2:n≤hi
  ·rw [decide_eq_true h1,decide_eq_true h2];go_enter Try.func53,Try.ntmps53;go_wp2;go_ret;exact ⟨rfl,rfl⟩
  ·rw [decide_eq_true h1,decide_eq_false h2];go_enter Try.func53,Try.ntmps53;go_wp2;go_ret;exact ⟨rfl,rfl⟩
 ·rw [decide_eq_false h1,Bool.false_and];go_enter Try.func53,Try.ntmps53;go_wp2;go_ret;exact ⟨rfl,rfl⟩

end Go.Proofs.Ytgmkhoakindpkaa
