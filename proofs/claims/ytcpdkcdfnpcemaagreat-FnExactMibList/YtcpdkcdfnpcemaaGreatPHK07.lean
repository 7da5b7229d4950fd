/-
  Packed: PtMark VtabOpen PtOpen BrOpen.
-/
import Derived.Test.YtcpdkcdfnpcemaaGreatPHK06
import Derived.ProofKit
import Derived.OpenShut
import Derived.ShutString
import Derived.ChangeOld
namespace Go.Proofs.YtcpdkcdfnpcemaaGreat
set_option maxRecDepth 100000
set_option maxHeartbeats 16000000
open Go.RowKit

def markP (k:Int):PT:=⟨(k) % 3 == 0,k+1,(k+1+1) % 3 == 0,⟨k+1+1+1,k+1+1+1+1,k+1+1+1+1+1,k+1+1+1+1+1+1,k+1+1+1+1+1+1+1⟩⟩
def zbu (k:Int) (n:Nat):List PT:=(List.range n).map fun (i:Nat)=>markP (k+8*i)

theorem zej (k:Int) (n:Nat):(zbu k n).length=n:=by simp [zbu]
theorem zfv (k:Int) (j:Nat):zbu k (j+1)=zbu k j++[markP (k+8*j)]:=by simp [zbu,List.range_succ]
theorem zi6 (k:Int) (n j:Nat) (h:j < n):(zbu k n)[j]? = some (markP (k+8*j)):=by simp [zbu,List.getElem?_map,List.getElem?_range h]

theorem zgw (base g n cap:Nat) (l:List PT) (k:Int) (w:World) (hown:w.ownsRow base 113 8 (.slice (some ⟨g,0,none⟩) n cap) n (ptF.all l)) (hn:n≤16777216) (hk0:0≤k) (hk1:k≤1099511627776) :
  Calls Tryz.prog 98 #[.slice (some ⟨g,0,none⟩) n cap,.int .i64 k] w fun r w'=>r=.returned (.int .i64 (k+8*n))∧w'.ownsRow base 113 8 (.slice (some ⟨g,0,none⟩) n cap) n (ptF.all (zbu k n))∧w.grownBy w' (some g):=by
 have hl:l.length=n:=(zab (F:=ptF) hown).size;go_enter Tryz.func98,Tryz.ntmps98;go_wp2
 go_loopw [1,5] (fun m i wr=>∃j:Nat,j≤n∧i=.int .i64 j∧m=.int .i64 (k+8*j)∧wr.ownsRow base 113 8 (.slice (some ⟨g,0,none⟩) n cap) n (ptF.all (zbu k j++l.drop j))∧w.grownBy wr (some g)) (fun _ i _=>n - (intOf i).toNat)
 case atStart=>exact ⟨0,Nat.zero_le _,rfl,by simp,by simpa [zbu] using hown,World.grownBy.refl _ _⟩
 case round =>
  obtain ⟨j,hj,rfl,rfl,how,hg⟩:=hrel;by_cases hlt:j < n
  ·obtain ⟨x,hx⟩:∃x,l[j]? = some x:=⟨l[j]'(by omega),List.getElem?_eq_getElem (by omega)⟩;have hdr:l.drop j=x::l.drop (j+1):=by
    obtain ⟨h,rfl⟩:=List.getElem?_eq_some_iff.1 hx;exact List.drop_eq_getElem_cons h
   rw [hdr] at how;have hlj:=zej k j;have hz:(zbu k j++x::l.drop (j+1))[j]? = some x:=by rw [List.getElem?_append_right (by omega),hlj,Nat.sub_self]; rfl
   obtain ⟨⟨t0,t1,t2,t3,t4,t5,t6,t7⟩,f0,f1,f2,f3,f4,f5,f6,f7⟩:=zga how hz;have o3:=ziz (y:=markP (k+8*j)) how;rw [hlj] at o3;have HO3:=hide o3;have HG:=hide (zA hg (zdV (w:=wr) (g:=g) (j*8) (j*8+1) (j*8+2) (j*8+3) (j*8+4) (j*8+5) (j*8+6) (j*8+7) (.bool (markP (k+8*j)).up) (.int .i64 (markP (k+8*j)).k) (.bool (markP (k+8*j)).has) (.int .i64 (markP (k+8*j)).v.r) (.int .i64 (markP (k+8*j)).v.c) (.int .i64 (markP (k+8*j)).v.h) (.int .i64 (markP (k+8*j)).v.b) (.int .i64 (markP (k+8*j)).v.p)));have HM:=hide (zfv k j);have hm:0≤k+8*(j:Int)∧k+8*(j:Int)≤2199023255552:=by omega
   clear how hg hown o3 hz hdr;generalize hK:k+8*(j:Int)=K at *;go_wp2
   go_roundw
   case rel=>exact ⟨j+1,by omega,by go_num,by simp; omega,by rw [HM.out,List.append_assoc]; exact HO3.out,HG.out⟩
   case measure=>simp [intOf]; omega
  ·have hj':j=n:=by omega
   subst hj';rw [List.drop_eq_nil_of_le (by omega),List.append_nil] at how;have HO:=hide how;clear how hown;go_wp2;go_ret;exact ⟨rfl,HO.out,hg⟩

theorem zfw (k:Int) (c:Nat) (w:World) :
  Calls Tryz.prog 98 #[.slice none 0 c,.int .i64 k] w fun r w'=>r=.returned (.int .i64 k)∧w'=w:=by
 go_enter Tryz.func98,Tryz.ntmps98;go_wp2
 go_loop [1,5] (fun m i=>m=.int .i64 k∧i=.int .i64 0) (fun _ _=>0)
 case atStart=>exact ⟨rfl,rfl⟩
 case round =>
  obtain ⟨rfl,rfl⟩:=hrel;go_wp2;go_ret;exact ⟨rfl,rfl⟩

theorem zek (base:Nat) (ao:Option Addr) (n cap:Nat) (l:List PT) (k:Int) (w:World) (hown:w.ownsRow base 113 8 (.slice ao n cap) n (ptF.all l)) (hn:n≤16777216) (hk0:0≤k) (hk1:k≤1099511627776) :
  Calls Tryz.prog 98 #[.slice ao n cap,.int .i64 k] w fun r w'=>r=.returned (.int .i64 (k+8*n))∧w'.ownsRow base 113 8 (.slice ao n cap) n (ptF.all (zbu k n))∧w.grownBy w' (Value.slice ao n cap).ownBlock:=by
 rcases hown.2 with ⟨e,h0⟩ | ⟨g,cap',cur,e,-⟩
 ·cases e;refine (zfw k 0 w).mono ?_;rintro r w' ⟨rfl,rfl⟩;exact ⟨by simp,by simpa [zbu,Flat.all] using World.ownsRow_nil w' base 113 8,World.grownBy.refl _ _⟩
 ·cases e;exact zgw base g n cap l k w hown hn hk0 hk1

section
open Go.RowKit

section
open Go.ChangeShapes Go.WideShapes Go.ChangeAt
variable {H:Type} {enc:TypeId × Value→H} {P:Program} {w:World}

theorem wf_64 {n:Int} (h:(Lit.int .i64 n).wf=true):I64 n:=by
 unfold I64
 simp [Lit.wf,IntKind.min,IntKind.max,IntKind.bits,IntKind.signed] at h
 omega

theorem zhD {tp ti:TypeId} {g0 g1 g2:Field} (hs:P.underlying tp=some (.struct #[g0,g1,g2])) (hi:P.underlying ti=some (.int .i64))
  (e0:g0.type=ti∧g0.offset=0) (e1:g1.type=ti∧g1.offset=1) (e2:g2.type=ti∧g2.offset=2) (hC:P.cellsOf tp=3) (hti:P.cellsOf ti=1)
  {fuel:Nat} {cs:List Value} {x:DataW H × List MemPlace} (h:DataW.trod enc P w 0 (fun _=>true) true fuel tp cs=some x):∃y,cs=vrowF.cs y∧y.Rng:=by
 obtain ⟨xs,n,_,_,hlen,hxl,hq⟩:=DataW.trod_struct hs h;rw [hC] at hlen
 match xs,hxl,cs,hlen with
 | [y0,y1,y2],_,[v0,v1,v2],_ =>
  have k0:=hq 0 g0 rfl;have k1:=hq 1 g1 rfl;have k2:=hq 2 g2 rfl;rw [e0.1,e0.2,hti] at k0;rw [e1.1,e1.2,hti] at k1;rw [e2.1,e2.2,hti] at k2
  simp at k0 k1 k2
  obtain ⟨T,i0,-,r0⟩:=DataW.trod_int hi k0;obtain ⟨M,i1,-,r1⟩:=DataW.trod_int hi k1;obtain ⟨B,i2,-,r2⟩:=DataW.trod_int hi k2;simp only [List.cons.injEq,and_true] at i0 i1 i2;subst i0 i1 i2;exact ⟨⟨T,M,B⟩,rfl,wf_64 r0,wf_64 r1,wf_64 r2⟩

end

end

section
open Go.RowKit

def PT.Rng (x:PT):Prop:=I64 x.k∧I64 x.v.r∧I64 x.v.c∧I64 x.v.h∧I64 x.v.b∧I64 x.v.p

section
open Go.ChangeShapes Go.WideShapes Go.ChangeAt
variable {H:Type} {enc:TypeId × Value→H} {P:Program} {w:World}

theorem zir {tp ti:TypeId} {g0 g1 g2 g3 g4:Field} (hs:P.underlying tp=some (.struct #[g0,g1,g2,g3,g4])) (hi:P.underlying ti=some (.int .i64))
  (e0:g0.type=ti∧g0.offset=0) (e1:g1.type=ti∧g1.offset=1) (e2:g2.type=ti∧g2.offset=2) (e3:g3.type=ti∧g3.offset=3) (e4:g4.type=ti∧g4.offset=4) (hC:P.cellsOf tp=5) (hti:P.cellsOf ti=1)
  {fuel:Nat} {cs:List Value} {x:DataW H × List MemPlace} (h:DataW.trod enc P w 0 (fun _=>true) true fuel tp cs=some x):∃y:VD,cs=[.int .i64 y.r,.int .i64 y.c,.int .i64 y.h,.int .i64 y.b,.int .i64 y.p]∧I64 y.r∧I64 y.c∧I64 y.h∧I64 y.b∧I64 y.p:=by
 obtain ⟨xs,n,_,_,hlen,hxl,hq⟩:=DataW.trod_struct hs h;rw [hC] at hlen
 match xs,hxl,cs,hlen with
 | [y0,y1,y2,y3,y4],_,[v0,v1,v2,v3,v4],_ =>
  have k0:=hq 0 g0 rfl;have k1:=hq 1 g1 rfl;have k2:=hq 2 g2 rfl;have k3:=hq 3 g3 rfl;have k4:=hq 4 g4 rfl;rw [e0.1,e0.2,hti] at k0;rw [e1.1,e1.2,hti] at k1;rw [e2.1,e2.2,hti] at k2;rw [e3.1,e3.2,hti] at k3;rw [e4.1,e4.2,hti] at k4
  simp at k0 k1 k2 k3 k4
  obtain ⟨A,i0,-,r0⟩:=DataW.trod_int hi k0;obtain ⟨B,i1,-,r1⟩:=DataW.trod_int hi k1;obtain ⟨C,i2,-,r2⟩:=DataW.trod_int hi k2;obtain ⟨D,i3,-,r3⟩:=DataW.trod_int hi k3;obtain ⟨E,i4,-,r4⟩:=DataW.trod_int hi k4;simp only [List.cons.injEq,and_true] at i0 i1 i2 i3 i4;subst i0 i1 i2 i3 i4;exact ⟨⟨A,B,C,D,E⟩,rfl,wf_64 r0,wf_64 r1,wf_64 r2,wf_64 r3,wf_64 r4⟩

theorem ziL {tp tv ti tb:TypeId} {f0 f1 f2 f3 g0 g1 g2 g3 g4:Field} (hp:P.underlying tp=some (.struct #[f0,f1,f2,f3])) (hs:P.underlying tv=some (.struct #[g0,g1,g2,g3,g4])) (hi:P.underlying ti=some (.int .i64)) (hb:P.underlying tb=some .bool)
  (e0:g0.type=ti∧g0.offset=0) (e1:g1.type=ti∧g1.offset=1) (e2:g2.type=ti∧g2.offset=2) (e3:g3.type=ti∧g3.offset=3) (e4:g4.type=ti∧g4.offset=4)
  (d0:f0.type=tb∧f0.offset=0) (d1:f1.type=ti∧f1.offset=1) (d2:f2.type=tb∧f2.offset=2) (d3:f3.type=tv∧f3.offset=3)
  (hC:P.cellsOf tp=8) (hCv:P.cellsOf tv=5) (hti:P.cellsOf ti=1) (htb:P.cellsOf tb=1)
  {fuel:Nat} {cs:List Value} {x:DataW H × List MemPlace} (h:DataW.trod enc P w 0 (fun _=>true) true fuel tp cs=some x):∃y,cs=ptF.cs y∧y.Rng:=by
 obtain ⟨xs,n,_,_,hlen,hxl,hq⟩:=DataW.trod_struct hp h;rw [hC] at hlen
 match xs,hxl,cs,hlen with
 | [y0,y1,y2,y3],_,[v0,v1,v2,v3,v4,v5,v6,v7],_ =>
  have k0:=hq 0 f0 rfl;have k1:=hq 1 f1 rfl;have k2:=hq 2 f2 rfl;have k3:=hq 3 f3 rfl;rw [d0.1,d0.2,htb] at k0;rw [d1.1,d1.2,hti] at k1;rw [d2.1,d2.2,htb] at k2;rw [d3.1,d3.2,hCv] at k3
  simp at k0 k1 k2 k3
  obtain ⟨U,i0,-⟩:=DataW.trod_bool hb k0;obtain ⟨K,i1,-,r1⟩:=DataW.trod_int hi k1;obtain ⟨A,i2,-⟩:=DataW.trod_bool hb k2;obtain ⟨V,i3,s0,s1,s2,s3,s4⟩:=zir hs hi e0 e1 e2 e3 e4 hCv hti k3;simp only [List.cons.injEq,and_true] at i0 i1 i2 i3;obtain ⟨j0,j1,j2,j3,j4⟩:=i3;subst i0 i1 i2 j0 j1 j2 j3 j4;exact ⟨⟨U,K,A,V⟩,rfl,wf_64 r1,s0,s1,s2,s3,s4⟩

theorem zh8 {ts tp tv ti tb:TypeId} {f0 f1 f2 f3 g0 g1 g2 g3 g4:Field} (hts:P.underlying ts=some (.slice tp)) (hp:P.underlying tp=some (.struct #[f0,f1,f2,f3])) (hs:P.underlying tv=some (.struct #[g0,g1,g2,g3,g4])) (hi:P.underlying ti=some (.int .i64)) (hb:P.underlying tb=some .bool)
  (e0:g0.type=ti∧g0.offset=0) (e1:g1.type=ti∧g1.offset=1) (e2:g2.type=ti∧g2.offset=2) (e3:g3.type=ti∧g3.offset=3) (e4:g4.type=ti∧g4.offset=4)
  (d0:f0.type=tb∧f0.offset=0) (d1:f1.type=ti∧f1.offset=1) (d2:f2.type=tb∧f2.offset=2) (d3:f3.type=tv∧f3.offset=3)
  (hC:P.cellsOf tp=8) (hCv:P.cellsOf tv=5) (hti:P.cellsOf ti=1) (htb:P.cellsOf tb=1)
  {fuel:Nat} {v:Value} {x:DataW H × List MemPlace} (h:DataW.trod enc P w 0 (fun _=>true) true fuel ts [v]=some x) :
  ∃a n c l,v=.slice a n c∧GRow ptF w a n c l∧∀x∈l,x.Rng :=
 zdx ⟨false,0,false,⟨0,0,0,0,0⟩⟩ ptF PT.Rng hts hC (fun h=>ziL hp hs hi hb e0 e1 e2 e3 e4 d0 d1 d2 d3 hC hCv hti htb h) h
end

end

section
open Go.RowKit

structure BR.Rng (b:BR):Prop where
 id:I64 b.id
 name:b.name.size≤maxLen
 ports:∀x∈b.ports,x.Rng
 f:∀x∈b.f,x.Rng
 v:∀x∈b.v.rows,x.Rng
 ticks:I64 b.ticks
 parse:I64 b.parse
 word:I64 b.word
 drops:I64 b.drops
 vers:I64 b.vers

structure zgL (P:Program) (tB ts tpS tp tv tfS tf tV trS tr tiS ti tb:TypeId) (f0 f1 f2 f3 f4 f5 f6 f7 f8 f9 p0 p1 p2 p3 v0 v1 v2 v3 v4 e0 e1 e2 e3 e4 t0 t1 r0 r1 r2:Field):Prop where
 uB:P.underlying tB=some (.struct #[f0,f1,f2,f3,f4,f5,f6,f7,f8,f9])
 us:P.underlying ts=some .string
 upS:P.underlying tpS=some (.slice tp)
 up:P.underlying tp=some (.struct #[p0,p1,p2,p3])
 uv:P.underlying tv=some (.struct #[v0,v1,v2,v3,v4])
 ufS:P.underlying tfS=some (.slice tf)
 uf:P.underlying tf=some (.struct #[e0,e1,e2,e3,e4])
 uV:P.underlying tV=some (.struct #[t0,t1])
 urS:P.underlying trS=some (.slice tr)
 ur:P.underlying tr=some (.struct #[r0,r1,r2])
 uiS:P.underlying tiS=some (.slice ti)
 ui:P.underlying ti=some (.int .i64)
 ub:P.underlying tb=some .bool
 f0:f0.type=ti∧f0.offset=0
 f1:f1.type=ts∧f1.offset=1
 f2:f2.type=tpS∧f2.offset=2
 f3:f3.type=tfS∧f3.offset=3
 f4:f4.type=tV∧f4.offset=4
 f5:f5.type=ti∧f5.offset=6
 f6:f6.type=ti∧f6.offset=7
 f7:f7.type=ti∧f7.offset=8
 f8:f8.type=ti∧f8.offset=9
 f9:f9.type=ti∧f9.offset=10
 p0:p0.type=tb∧p0.offset=0
 p1:p1.type=ti∧p1.offset=1
 p2:p2.type=tb∧p2.offset=2
 p3:p3.type=tv∧p3.offset=3
 v0:v0.type=ti∧v0.offset=0
 v1:v1.type=ti∧v1.offset=1
 v2:v2.type=ti∧v2.offset=2
 v3:v3.type=ti∧v3.offset=3
 v4:v4.type=ti∧v4.offset=4
 e0:e0.type=ti∧e0.offset=0
 e1:e1.type=ti∧e1.offset=1
 e2:e2.type=ti∧e2.offset=2
 e3:e3.type=ti∧e3.offset=3
 e4:e4.type=tb∧e4.offset=4
 t0:t0.type=trS∧t0.offset=0
 t1:t1.type=tiS∧t1.offset=1
 r0:r0.type=ti∧r0.offset=0
 r1:r1.type=ti∧r1.offset=1
 r2:r2.type=ti∧r2.offset=2
 cB:P.cellsOf tB=11
 cs:P.cellsOf ts=1
 cpS:P.cellsOf tpS=1
 cp:P.cellsOf tp=8
 cv:P.cellsOf tv=5
 cfS:P.cellsOf tfS=1
 cf:P.cellsOf tf=5
 cV:P.cellsOf tV=2
 crS:P.cellsOf trS=1
 cr:P.cellsOf tr=3
 ciS:P.cellsOf tiS=1
 ci:P.cellsOf ti=1
 cb:P.cellsOf tb=1

section
open Go.ChangeShapes Go.WideShapes Go.ChangeAt
variable {H:Type} {enc:TypeId × Value→H} {P:Program} {w:World}

theorem zhG {tp ts tb tis ti:TypeId} {f0 f1 g0 g1 g2:Field} (hs:P.underlying tp=some (.struct #[f0,f1])) (hC:P.cellsOf tp=2) (ef0:f0.type=ts∧f0.offset=0) (ef1:f1.type=tis∧f1.offset=1) (cts:P.cellsOf ts=1) (ctis:P.cellsOf tis=1)
  (hts:P.underlying ts=some (.slice tb)) (htis:P.underlying tis=some (.slice ti)) (htb:P.underlying tb=some (.struct #[g0,g1,g2])) (hi:P.underlying ti=some (.int .i64))
  (e0:g0.type=ti∧g0.offset=0) (e1:g1.type=ti∧g1.offset=1) (e2:g2.type=ti∧g2.offset=2) (hCb:P.cellsOf tb=3) (hti:P.cellsOf ti=1)
  {fuel:Nat} {cs:List Value} {x:DataW H × List MemPlace} (h:DataW.trod enc P w 0 (fun _=>true) true fuel tp cs=some x) :
  ∃a n c o p q t,cs=[.slice a n c,.slice o p q]∧VTab w a n c o p q t∧∀x∈t.rows,x.Rng:=by
 obtain ⟨xs,n,_,_,hlen,hxl,hq⟩:=DataW.trod_struct hs h;rw [hC] at hlen
 match xs,hxl,cs,hlen with
 | [y0,y1],_,[v0,v1],_ =>
  have k0:=hq 0 f0 rfl;have k1:=hq 1 f1 rfl;rw [ef0.1,ef0.2,cts] at k0;rw [ef1.1,ef1.2,ctis] at k1
  simp at k0 k1
  obtain ⟨a,n,c,l,rfl,hl,hr⟩:=zdx ⟨0,0,0⟩ vrowF VR.Rng hts hCb (fun h=>zhD htb hi e0 e1 e2 hCb hti h) k0;rcases open_ints htis hi hti k1 with ⟨hcs,_⟩ | ⟨x,l',c',zs,hcs,_,hl',hm,hz,_,hcell,hwz⟩
  ·simp only [List.cons.injEq,and_true] at hcs;subst hcs;exact ⟨a,n,c,none,0,0,⟨l,[]⟩,rfl,⟨hl,zf3 w⟩,hr⟩
  ·simp only [List.cons.injEq,and_true] at hcs;subst hcs;exact ⟨a,n,c,some x,l',c',⟨l,zs.take l'⟩,rfl,⟨hl,zg4 hl' hm (by simpa using hz) hcell hwz⟩,hr⟩

theorem zfB {tB ts tpS tp tv tfS tf tV trS tr tiS ti tb:TypeId} {f0 f1 f2 f3 f4 f5 f6 f7 f8 f9 p0 p1 p2 p3 v0 v1 v2 v3 v4 e0 e1 e2 e3 e4 t0 t1 r0 r1 r2:Field} (T:zgL P tB ts tpS tp tv tfS tf tV trS tr tiS ti tb f0 f1 f2 f3 f4 f5 f6 f7 f8 f9 p0 p1 p2 p3 v0 v1 v2 v3 v4 e0 e1 e2 e3 e4 t0 t1 r0 r1 r2)
  {r:Reach} {b0:Nat} {v:Value} {d:DataW H} {p:List MemPlace} (hv:Value.okWide P w r b0 tB v) (h:DataW.Trod enc P w 0 (fun _=>true) true tB v d p) :
  ∃(a:Option Addr) (n c:Nat) (fa:Option Addr) (fn fc:Nat) (ra:Option Addr) (rn rc:Nat) (oa:Option Addr) (on oc:Nat) (B:BR),v=.agg #[.int .i64 B.id,.string B.name,.slice a n c,.slice fa fn fc,.slice ra rn rc,.slice oa on oc,.int .i64 B.ticks,.int .i64 B.parse,.int .i64 B.word,.int .i64 B.drops,.int .i64 B.vers]∧BrRow w a n c fa fn fc ra rn rc oa on oc B∧B.Rng:=by
 obtain ⟨cs,rfl,hsz⟩:=okWide_struct T.uB hv;obtain ⟨fuel,hf⟩:=h;obtain ⟨xs,m,_,_,hlen,hxl,hq⟩:=DataW.trod_struct T.uB hf;rw [T.cB] at hlen;obtain ⟨cl⟩:=cs;have hlen:cl.length=11:=hlen;have hq:∀(i:Nat) (fd:Field),#[f0,f1,f2,f3,f4,f5,f6,f7,f8,f9][i]? = some fd→_:=hq
 match xs,hxl,cl,hlen with
 | [y0,y1,y2,y3,y4,y5,y6,y7,y8,y9],_,[u0,u1,u2,u3,u4,u5,u6,u7,u8,u9,u10],_ =>
  have k0:=hq 0 f0 rfl;have k1:=hq 1 f1 rfl;have k2:=hq 2 f2 rfl;have k3:=hq 3 f3 rfl;have k4:=hq 4 f4 rfl;have k5:=hq 5 f5 rfl;have k6:=hq 6 f6 rfl;have k7:=hq 7 f7 rfl;have k8:=hq 8 f8 rfl;have k9:=hq 9 f9 rfl;rw [T.f0.1,T.f0.2,T.ci] at k0;rw [T.f1.1,T.f1.2,T.cs] at k1;rw [T.f2.1,T.f2.2,T.cpS] at k2;rw [T.f3.1,T.f3.2,T.cfS] at k3;rw [T.f4.1,T.f4.2,T.cV] at k4;rw [T.f5.1,T.f5.2,T.ci] at k5;rw [T.f6.1,T.f6.2,T.ci] at k6;rw [T.f7.1,T.f7.2,T.ci] at k7;rw [T.f8.1,T.f8.2,T.ci] at k8;rw [T.f9.1,T.f9.2,T.ci] at k9
  simp [Value.cells] at k0 k1 k2 k3 k4 k5 k6 k7 k8 k9
  obtain ⟨Id,i0,-,r0⟩:=DataW.trod_int T.ui k0;obtain ⟨Nm,i1,-,r1⟩:=DataW.trod_string T.us k1;obtain ⟨a,n,c,lp,rfl,hp,rp⟩:=zh8 T.upS T.up T.uv T.ui T.ub T.v0 T.v1 T.v2 T.v3 T.v4 T.p0 T.p1 T.p2 T.p3 T.cp T.cv T.ci T.cb k2;obtain ⟨fa,fn,fc,lf,rfl,hf',rf⟩:=zdx ⟨0,0,0,0,false⟩ fentF FE.Rng T.ufS T.cf (fun h=>zg0 T.uf T.ui T.ub T.e0 T.e1 T.e2 T.e3 T.e4 T.cf T.ci T.cb h) k3;obtain ⟨ra,rn,rc,oa,on,oc,vt,i4,hvt,rv⟩:=zhG T.uV T.cV T.t0 T.t1 T.crS T.ciS T.urS T.uiS T.ur T.ui T.r0 T.r1 T.r2 T.cr T.ci k4;obtain ⟨Ti,i5,-,r5⟩:=DataW.trod_int T.ui k5;obtain ⟨Pa,i6,-,r6⟩:=DataW.trod_int T.ui k6;obtain ⟨Wo,i7,-,r7⟩:=DataW.trod_int T.ui k7;obtain ⟨Dr,i8,-,r8⟩:=DataW.trod_int T.ui k8;obtain ⟨Ve,i9,-,r9⟩:=DataW.trod_int T.ui k9;simp only [List.cons.injEq,and_true] at i0 i1 i4 i5 i6 i7 i8 i9;obtain ⟨j0,j1⟩:=i4;subst i0 i1 j0 j1 i5 i6 i7 i8 i9;exact ⟨a,n,c,fa,fn,fc,ra,rn,rc,oa,on,oc,⟨Id,Nm,lp,lf,vt,Ti,Pa,Wo,Dr,Ve⟩,rfl,⟨hp,hf',hvt⟩,wf_64 r0,r1,rp,rf,rv,wf_64 r5,wf_64 r6,wf_64 r7,wf_64 r8,wf_64 r9⟩
end

end

end Go.Proofs.YtcpdkcdfnpcemaaGreat
