/-
  Packed: BrOpen OidLess.
-/
import Derived.Test.YtcpdkcdfnpcemabGreatPGK05
namespace Go.Proofs.YtcpdkcdfnpcemabGreat
set_option maxRecDepth 100000
set_option maxHeartbeats 16000000
open Go.RowKit

section
open Go.RowKit

structure BR.Rng (b:BR):Prop where
 id:I64 b.id
 name:b.name.size≤maxLen
 ports:∀x∈b.ports,x.Rng
 f:∀x∈b.f,x.Rng
 v:∀x∈b.v.rows,x.Rng
 ticks:I64 b.ticks
 parse:I64 b.parse
 word:I64 b.word
 drops:I64 b.drops
 vers:I64 b.vers

structure zdU (P:Program) (tB ts tpS tp tv tfS tf tV trS tr tiS ti tb:TypeId) (f0 f1 f2 f3 f4 f5 f6 f7 f8 f9 p0 p1 p2 p3 v0 v1 v2 v3 v4 e0 e1 e2 e3 e4 t0 t1 r0 r1 r2:Field):Prop where
 uB:P.underlying tB=some (.struct #[f0,f1,f2,f3,f4,f5,f6,f7,f8,f9])
 us:P.underlying ts=some .string
 upS:P.underlying tpS=some (.slice tp)
 up:P.underlying tp=some (.struct #[p0,p1,p2,p3])
 uv:P.underlying tv=some (.struct #[v0,v1,v2,v3,v4])
 ufS:P.underlying tfS=some (.slice tf)
 uf:P.underlying tf=some (.struct #[e0,e1,e2,e3,e4])
 uV:P.underlying tV=some (.struct #[t0,t1])
 urS:P.underlying trS=some (.slice tr)
 ur:P.underlying tr=some (.struct #[r0,r1,r2])
 uiS:P.underlying tiS=some (.slice ti)
 ui:P.underlying ti=some (.int .i64)
 ub:P.underlying tb=some .bool
 f0:f0.type=ti∧f0.offset=0
 f1:f1.type=ts∧f1.offset=1
 f2:f2.type=tpS∧f2.offset=2
 f3:f3.type=tfS∧f3.offset=3
 f4:f4.type=tV∧f4.offset=4
 f5:f5.type=ti∧f5.offset=6
 f6:f6.type=ti∧f6.offset=7
 f7:f7.type=ti∧f7.offset=8
 f8:f8.type=ti∧f8.offset=9
 f9:f9.type=ti∧f9.offset=10
 p0:p0.type=tb∧p0.offset=0
 p1:p1.type=ti∧p1.offset=1
 p2:p2.type=tb∧p2.offset=2
 p3:p3.type=tv∧p3.offset=3
 v0:v0.type=ti∧v0.offset=0
 v1:v1.type=ti∧v1.offset=1
 v2:v2.type=ti∧v2.offset=2
 v3:v3.type=ti∧v3.offset=3
 v4:v4.type=ti∧v4.offset=4
 e0:e0.type=ti∧e0.offset=0
 e1:e1.type=ti∧e1.offset=1
 e2:e2.type=ti∧e2.offset=2
 e3:e3.type=ti∧e3.offset=3
 e4:e4.type=tb∧e4.offset=4
 t0:t0.type=trS∧t0.offset=0
 t1:t1.type=tiS∧t1.offset=1
 r0:r0.type=ti∧r0.offset=0
 r1:r1.type=ti∧r1.offset=1
 r2:r2.type=ti∧r2.offset=2
 cB:P.cellsOf tB=11
 cs:P.cellsOf ts=1
 cpS:P.cellsOf tpS=1
 cp:P.cellsOf tp=8
 cv:P.cellsOf tv=5
 cfS:P.cellsOf tfS=1
 cf:P.cellsOf tf=5
 cV:P.cellsOf tV=2
 crS:P.cellsOf trS=1
 cr:P.cellsOf tr=3
 ciS:P.cellsOf tiS=1
 ci:P.cellsOf ti=1
 cb:P.cellsOf tb=1

section
open Go.ChangeShapes Go.WideShapes Go.ChangeAt
variable {H:Type} {enc:TypeId × Value→H} {P:Program} {w:World}

theorem zfL {tp ts tb tis ti:TypeId} {f0 f1 g0 g1 g2:Field} (hs:P.underlying tp=some (.struct #[f0,f1])) (hC:P.cellsOf tp=2) (ef0:f0.type=ts∧f0.offset=0) (ef1:f1.type=tis∧f1.offset=1) (cts:P.cellsOf ts=1) (ctis:P.cellsOf tis=1)
  (hts:P.underlying ts=some (.slice tb)) (htis:P.underlying tis=some (.slice ti)) (htb:P.underlying tb=some (.struct #[g0,g1,g2])) (hi:P.underlying ti=some (.int .i64))
  (e0:g0.type=ti∧g0.offset=0) (e1:g1.type=ti∧g1.offset=1) (e2:g2.type=ti∧g2.offset=2) (hCb:P.cellsOf tb=3) (hti:P.cellsOf ti=1)
  {fuel:Nat} {cs:List Value} {x:DataW H × List MemPlace} (h:DataW.trod enc P w 0 (fun _=>true) true fuel tp cs=some x) :
  ∃a n c o p q t,cs=[.slice a n c,.slice o p q]∧VTab w a n c o p q t∧∀x∈t.rows,x.Rng:=by
 obtain ⟨xs,n,_,_,hlen,hxl,hq⟩:=DataW.trod_struct hs h;rw [hC] at hlen
 match xs,hxl,cs,hlen with
 | [y0,y1],_,[v0,v1],_ =>
  have k0:=hq 0 f0 rfl;have k1:=hq 1 f1 rfl;rw [ef0.1,ef0.2,cts] at k0;rw [ef1.1,ef1.2,ctis] at k1
  simp at k0 k1
  obtain ⟨a,n,c,l,rfl,hl,hr⟩:=zcx ⟨0,0,0⟩ vrowF VR.Rng hts hCb (fun h=>zfI htb hi e0 e1 e2 hCb hti h) k0;rcases open_ints htis hi hti k1 with ⟨hcs,_⟩ | ⟨x,l',c',zs,hcs,_,hl',hm,hz,_,hcell,hwz⟩
  ·simp only [List.cons.injEq,and_true] at hcs;subst hcs;exact ⟨a,n,c,none,0,0,⟨l,[]⟩,rfl,⟨hl,zaF w⟩,hr⟩
  ·simp only [List.cons.injEq,and_true] at hcs;subst hcs;exact ⟨a,n,c,some x,l',c',⟨l,zs.take l'⟩,rfl,⟨hl,zcs hl' hm (by simpa using hz) hcell hwz⟩,hr⟩

theorem zcw {tB ts tpS tp tv tfS tf tV trS tr tiS ti tb:TypeId} {f0 f1 f2 f3 f4 f5 f6 f7 f8 f9 p0 p1 p2 p3 v0 v1 v2 v3 v4 e0 e1 e2 e3 e4 t0 t1 r0 r1 r2:Field} (T:zdU P tB ts tpS tp tv tfS tf tV trS tr tiS ti tb f0 f1 f2 f3 f4 f5 f6 f7 f8 f9 p0 p1 p2 p3 v0 v1 v2 v3 v4 e0 e1 e2 e3 e4 t0 t1 r0 r1 r2)
  {r:Reach} {b0:Nat} {v:Value} {d:DataW H} {p:List MemPlace} (hv:Value.okWide P w r b0 tB v) (h:DataW.Trod enc P w 0 (fun _=>true) true tB v d p) :
  ∃(a:Option Addr) (n c:Nat) (fa:Option Addr) (fn fc:Nat) (ra:Option Addr) (rn rc:Nat) (oa:Option Addr) (on oc:Nat) (B:BR),v=.agg #[.int .i64 B.id,.string B.name,.slice a n c,.slice fa fn fc,.slice ra rn rc,.slice oa on oc,.int .i64 B.ticks,.int .i64 B.parse,.int .i64 B.word,.int .i64 B.drops,.int .i64 B.vers]∧BrRow w a n c fa fn fc ra rn rc oa on oc B∧B.Rng:=by
 obtain ⟨cs,rfl,hsz⟩:=okWide_struct T.uB hv;obtain ⟨fuel,hf⟩:=h;obtain ⟨xs,m,_,_,hlen,hxl,hq⟩:=DataW.trod_struct T.uB hf;rw [T.cB] at hlen;obtain ⟨cl⟩:=cs;have hlen:cl.length=11:=hlen;have hq:∀(i:Nat) (fd:Field),#[f0,f1,f2,f3,f4,f5,f6,f7,f8,f9][i]? = some fd→_:=hq
 match xs,hxl,cl,hlen with
 | [y0,y1,y2,y3,y4,y5,y6,y7,y8,y9],_,[u0,u1,u2,u3,u4,u5,u6,u7,u8,u9,u10],_ =>
  have k0:=hq 0 f0 rfl;have k1:=hq 1 f1 rfl;have k2:=hq 2 f2 rfl;have k3:=hq 3 f3 rfl;have k4:=hq 4 f4 rfl;have k5:=hq 5 f5 rfl;have k6:=hq 6 f6 rfl;have k7:=hq 7 f7 rfl;have k8:=hq 8 f8 rfl;have k9:=hq 9 f9 rfl;rw [T.f0.1,T.f0.2,T.ci] at k0;rw [T.f1.1,T.f1.2,T.cs] at k1;rw [T.f2.1,T.f2.2,T.cpS] at k2;rw [T.f3.1,T.f3.2,T.cfS] at k3;rw [T.f4.1,T.f4.2,T.cV] at k4;rw [T.f5.1,T.f5.2,T.ci] at k5;rw [T.f6.1,T.f6.2,T.ci] at k6;rw [T.f7.1,T.f7.2,T.ci] at k7;rw [T.f8.1,T.f8.2,T.ci] at k8;rw [T.f9.1,T.f9.2,T.ci] at k9
  simp [Value.cells] at k0 k1 k2 k3 k4 k5 k6 k7 k8 k9
  obtain ⟨Id,i0,-,r0⟩:=DataW.trod_int T.ui k0;obtain ⟨Nm,i1,-,r1⟩:=DataW.trod_string T.us k1;obtain ⟨a,n,c,lp,rfl,hp,rp⟩:=zf4 T.upS T.up T.uv T.ui T.ub T.v0 T.v1 T.v2 T.v3 T.v4 T.p0 T.p1 T.p2 T.p3 T.cp T.cv T.ci T.cb k2;obtain ⟨fa,fn,fc,lf,rfl,hf',rf⟩:=zcx ⟨0,0,0,0,false⟩ fentF FE.Rng T.ufS T.cf (fun h=>zfg T.uf T.ui T.ub T.e0 T.e1 T.e2 T.e3 T.e4 T.cf T.ci T.cb h) k3;obtain ⟨ra,rn,rc,oa,on,oc,vt,i4,hvt,rv⟩:=zfL T.uV T.cV T.t0 T.t1 T.crS T.ciS T.urS T.uiS T.ur T.ui T.r0 T.r1 T.r2 T.cr T.ci k4;obtain ⟨Ti,i5,-,r5⟩:=DataW.trod_int T.ui k5;obtain ⟨Pa,i6,-,r6⟩:=DataW.trod_int T.ui k6;obtain ⟨Wo,i7,-,r7⟩:=DataW.trod_int T.ui k7;obtain ⟨Dr,i8,-,r8⟩:=DataW.trod_int T.ui k8;obtain ⟨Ve,i9,-,r9⟩:=DataW.trod_int T.ui k9;simp only [List.cons.injEq,and_true] at i0 i1 i4 i5 i6 i7 i8 i9;obtain ⟨j0,j1⟩:=i4;subst i0 i1 j0 j1 i5 i6 i7 i8 i9;exact ⟨a,n,c,fa,fn,fc,ra,rn,rc,oa,on,oc,⟨Id,Nm,lp,lf,vt,Ti,Pa,Wo,Dr,Ve⟩,rfl,⟨hp,hf',hvt⟩,wf_64 r0,r1,rp,rf,rv,wf_64 r5,wf_64 r6,wf_64 r7,wf_64 r8,wf_64 r9⟩
end

end

theorem IRow.take {w:World} {ao:Option Addr} {n c:Nat} {zs:List Int} (h:IRow w ao n c zs) (k:Nat) (hk:k≤n):IRow w ao k c (zs.take k) where
 size:=by have:=h.size; simp; omega
 le:=by have:=h.le; omega
 top:=h.top
 nil:=h.nil
 byte:=fun z hz=>h.byte z (List.mem_of_mem_take hz)
 cell:=by
  rcases h.cell with h0 | ⟨b,off,ha,hc⟩
  ·exact .inl (by omega)
  ·exact .inr ⟨b,off,ha,fun i hi=>by rw [hc i (by omega)]; simp [List.getD_eq_getElem?_getD,hi]⟩

theorem zbX (x:Int) (w:World) :
  Calls Tryz.prog 186 #[.int .i64 x] w fun e w'=>e=.returned (.bool false)∧w'=w:=by
 go_enter Tryz.func186,Tryz.ntmps186;go_wp2;go_ret;exact ⟨by simp,rfl⟩

theorem zgL (x y:Int) (w:World) (h:x < y) :
  Calls Tryz.prog 133 #[.int .i64 x,.int .i64 y] w fun e w'=>e=.returned (.int .i64 (-1))∧w'=w:=by
 go_enter Tryz.func133,Tryz.ntmps133;go_wp2_with fail
 refine (zbX x _).mono ?_;rintro e w1 ⟨rfl,rfl⟩;go_wp2_with fail
 refine (zbX y _).mono ?_;rintro e w1 ⟨rfl,rfl⟩;go_wp2;go_ret;exact ⟨rfl,rfl⟩

theorem zgK (x y:Int) (w:World) (h:y < x) :
  Calls Tryz.prog 133 #[.int .i64 x,.int .i64 y] w fun e w'=>e=.returned (.int .i64 1)∧w'=w:=by
 have h':¬x < y:=by omega
 go_enter Tryz.func133,Tryz.ntmps133;go_wp2_with fail
 refine (zbX x _).mono ?_;rintro e w1 ⟨rfl,rfl⟩;go_wp2_with fail
 refine (zbX y _).mono ?_;rintro e w1 ⟨rfl,rfl⟩;go_wp2;go_ret;exact ⟨rfl,rfl⟩

theorem zgJ (x:Int) (w:World) :
  Calls Tryz.prog 133 #[.int .i64 x,.int .i64 x] w fun e w'=>e=.returned (.int .i64 0)∧w'=w:=by
 go_enter Tryz.func133,Tryz.ntmps133;go_wp2_with fail
 refine (zbX x _).mono ?_;rintro e w1 ⟨rfl,rfl⟩;go_wp2_with fail
 refine (zbX x _).mono ?_;rintro e w1 ⟨rfl,rfl⟩;go_wp2;go_ret;exact ⟨rfl,rfl⟩

theorem zdZ (a1:Option Addr) (l1 c1:Nat) (z1:List Int) (a2:Option Addr) (l2 c2:Nat) (z2:List Int) (w:World) (h1:IRow w a1 l1 c1 z1) (h2:IRow w a2 l2 c2 z2) :
  Calls Tryz.prog 89 #[.slice a1 l1 c1,.slice a2 l2 c2] w fun e w'=>∃c:Int,e=.returned (.int .i64 c)∧lessL z1 z2=decide (c < 0)∧w'=w:=by
 have m1:=h1.top; have m2:=h2.top; have s1:=h1.size; have s2:=h2.size; have e1:=h1.le; have e2:=h2.le
 unfold maxLen at m1 m2;have hc1:=h1.cell;have hc2:=h2.cell;clear h1 h2;go_enter Tryz.func89,Tryz.ntmps89;go_wp2
 go_loop [11] (fun i=>∃k:Nat,k≤l1∧k≤l2∧i=.int .i64 k∧z1.take k=z2.take k) (fun i=>l1 - (intOf i).toNat)
 case atStart=>exact ⟨0,Nat.zero_le _,Nat.zero_le _,rfl,rfl⟩
 case round =>
  obtain ⟨k,hk,hk2,rfl,ht⟩:=hrel;have HT:=hide ht;clear ht;by_cases hlt:k < l1
  ·rcases hc1 with h0 | ⟨b,off,rfl,hc⟩
   ·omega
   have cx:=hc k hlt;clear hc;by_cases hl2:k < l2
   ·rcases hc2 with h0 | ⟨b2,off2,rfl,hc⟩
    ·omega
    have cy:=hc k hl2;clear hc;generalize hx:z1.getD k 0=x at cx;generalize hy:z2.getD k 0=y at cy;have HX:=hide hx;have HY:=hide hy;clear hx hy;by_cases hq:x=y
    ·subst hq;(go_wp2_with fail);refine (zgJ x _).mono ?_;rintro e w1 ⟨rfl,rfl⟩;go_wp2
     go_round
     case rel=>exact ⟨k+1,by omega,by omega,by go_num,by rw [zG _ _ (by omega),zG _ _ (by omega),HT.out,HX.out,HY.out]⟩
     case measure=>simp [intOf]; omega
    ·have HL:Hid (lessL z1 z2=decide (x < y)):=by
      rw [← HX.out,← HY.out];exact zea k z1 z2 HT.out (by omega) (by omega) (by rw [HX.out,HY.out]; exact hq)
     by_cases hq2:x < y
     ·(go_wp2_with fail);refine (zgL x y _ hq2).mono ?_;rintro e w1 ⟨rfl,rfl⟩;go_wp2;go_ret;exact ⟨-1,rfl,by rw [HL.out,decide_eq_true hq2]; rfl,rfl⟩
     ·(go_wp2_with fail);refine (zgK x y _ (by omega)).mono ?_;rintro e w1 ⟨rfl,rfl⟩;go_wp2;go_ret;exact ⟨1,rfl,by rw [HL.out,decide_eq_false (by omega)]; rfl,rfl⟩
   ·go_wp2;go_ret;exact ⟨1,rfl,by rw [zbJ k z1 z2 HT.out (by omega) (by omega) (.inr (by omega)),decide_eq_false (by omega)]; rfl,rfl⟩
  ·have HL:Hid (lessL z1 z2=decide (l1 < l2)):=by
    have:=zbJ k z1 z2 HT.out (by omega) (by omega) (.inl (by omega))
    rw [s1,s2] at this;exact this
   by_cases hq:l1 < l2
   ·go_wp2;go_ret;exact ⟨-1,rfl,by rw [HL.out,decide_eq_true hq]; rfl,rfl⟩
   ·go_wp2;go_ret;exact ⟨0,rfl,by rw [HL.out,decide_eq_false hq]; rfl,rfl⟩

theorem zdt (a1:Option Addr) (l1 c1:Nat) (z1:List Int) (a2:Option Addr) (l2 c2:Nat) (z2:List Int) (w:World) (h1:IRow w a1 l1 c1 z1) (h2:IRow w a2 l2 c2 z2) :
  Calls Tryz.prog 53 #[.slice a1 l1 c1,.slice a2 l2 c2] w fun e w'=>e=.returned (.bool (lessL z1 z2))∧w'=w:=by
 go_enter Tryz.func53,Tryz.ntmps53;go_wp2_with fail
 refine (zdZ _ _ _ z1 _ _ _ z2 _ h1 h2).mono ?_;rintro e w1 ⟨c,rfl,hc,rfl⟩;have HC:=hide hc;clear hc;go_wp2;go_ret;exact ⟨zp HC.out.symm,rfl⟩

theorem zdO (a1:Option Addr) (l1 c1:Nat) (z1:List Int) (a2:Option Addr) (l2 c2:Nat) (z2:List Int) (w:World) (h1:IRow w a1 l1 c1 z1) (h2:IRow w a2 l2 c2 z2) :
  Calls Tryz.prog 52 #[.slice a1 l1 c1,.slice a2 l2 c2] w fun e w'=>e=.returned (.bool (lessL z1 z2))∧∃n,w'=w.drewN n:=by
 have m1:=h1.top; have m2:=h2.top; have s1:=h1.size; have s2:=h2.size; have e1:=h1.le; have e2:=h2.le
 unfold maxLen at m1 m2;have hc1:=h1.cell;have hc2:=h2.cell;clear h1 h2;go_enter Tryz.func52,Tryz.ntmps52;go_wp2
 go_loopw [5] (fun i wr=>∃k:Nat,k≤l1∧k≤l2∧i=.int .i64 k∧z1.take k=z2.take k∧∃n,wr=w.drewN n) (fun i _=>l1 - (intOf i).toNat)
 case atStart=>exact ⟨0,Nat.zero_le _,Nat.zero_le _,rfl,rfl,0,rfl⟩
 case round =>
  obtain ⟨k,hk,hk2,rfl,ht,n,rfl⟩:=hrel;have HT:=hide ht;clear ht;by_cases hlt:k < l1
  ·rcases hc1 with h0 | ⟨b,off,rfl,hc⟩
   ·omega
   have cx:=hc k hlt;clear hc;by_cases hl2:k < l2
   ·rcases hc2 with h0 | ⟨b2,off2,rfl,hc⟩
    ·omega
    have cy:=hc k hl2;clear hc;generalize hx:z1.getD k 0=x at cx;generalize hy:z2.getD k 0=y at cy;have HX:=hide hx;have HY:=hide hy;clear hx hy;by_cases hq:x=y
    ·subst hq;go_wp2
     go_quiet (fail)
     go_wp2
     go_roundw
     case rel=>exact ⟨k+1,by omega,by omega,by go_num,by rw [zG _ _ (by omega),zG _ _ (by omega),HT.out,HX.out,HY.out],_,rfl⟩
     case measure=>simp [intOf]; omega
    ·have HL:Hid (lessL z1 z2=decide (x < y)):=by
      rw [← HX.out,← HY.out];exact zea k z1 z2 HT.out (by omega) (by omega) (by rw [HX.out,HY.out]; exact hq)
     have hne:(x != y)=true:=by simp [hq]
     go_wp2
     go_quiet (fail)
     go_wp2
     go_quiet (fail)
     go_wp2;go_ret;exact ⟨zp HL.out.symm,_,by rw [World.drewN_drewN,World.drewN_drewN]⟩
   ·go_wp2;go_ret;exact ⟨zp (by rw [zbJ k z1 z2 HT.out (by omega) (by omega) (.inr (by omega)),s1,s2,Bool.eq_iff_iff]),_,rfl⟩
  ·go_wp2;go_ret;exact ⟨zp (by rw [zbJ k z1 z2 HT.out (by omega) (by omega) (.inl (by omega)),s1,s2,Bool.eq_iff_iff]),_,rfl⟩

end Go.Proofs.YtcpdkcdfnpcemabGreat
