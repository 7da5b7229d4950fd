/-
  Packed: VecSpec PtMem FdbMath FentMem VtabMath IBase IHelp VrowMem BrMem BrLie NetMem VecEql PtOkS FdbSpec VtabAt PtApp.
-/
import Derived.Test.YtkcoehmpnkdinaaGreatPNK01
import Derived.Deep.RegionHeld3
import Derived.Deep.CutRange
namespace Go.Proofs.YtkcoehmpnkdinaaGreat
set_option maxRecDepth 100000
set_option maxHeartbeats 16000000
open Go.RowKit

theorem zjL (R C H B P:Int):okVc R C H B P=((decide (1≤R) && decide (R≤99)) && ((decide (0≤C) && decide (C≤100000)) && ((decide (0≤H) && decide (H≤10)) && ((decide (1≤B) && decide (B≤99)) && (decide (0≤P) && decide (P≤7)))))):=by
 unfold okVc;have e1:∀a x b:Int,decide (a≤x∧x≤b)=(decide (a≤x) && decide (x≤b)):=fun a x b=>by rw [Bool.eq_iff_iff]; simp
 rw [e1,e1,e1,e1,e1]

theorem zau (R C H B P:Int) (w:World) :
  Calls Tryz.prog 41 #[.agg #[.int .i64 R,.int .i64 C,.int .i64 H,.int .i64 B,.int .i64 P]] w fun e w'=>e=.returned (.bool (okVc R C H B P))∧Below w.heap.size w w':=by
 generalize hP:okVc R C H B P=Q;rw [zjL] at hP;cases t1:(decide (1≤R) && decide (R≤99))
 ·have e:Q=false:=by rw [← hP,t1]; rfl
  subst e;have T1:=hide t1;clear hP t1;go_enter Tryz.func41,Tryz.ntmps41;(go_wp2_with fail);refine (zh R 1 99 _).mono ?_;rintro e w1 ⟨rfl,rfl⟩;rw [T1.out];go_wp2;go_ret;exact ⟨rfl,zg _ _⟩
 cases t2:(decide (0≤C) && decide (C≤100000))
 ·have e:Q=false:=by rw [← hP,t1,t2]; rfl
  subst e;have T1:=hide t1;have T2:=hide t2;clear hP t1 t2;go_enter Tryz.func41,Tryz.ntmps41;(go_wp2_with fail);refine (zh R 1 99 _).mono ?_;rintro e w1 ⟨rfl,rfl⟩;rw [T1.out];(go_wp2_with fail);refine (zh C 0 100000 _).mono ?_;rintro e w2 ⟨rfl,rfl⟩;rw [T2.out];go_wp2;go_ret;exact ⟨rfl,zg _ _⟩
 cases t3:(decide (0≤H) && decide (H≤10))
 ·have e:Q=false:=by rw [← hP,t1,t2,t3]; rfl
  subst e;have T1:=hide t1;have T2:=hide t2;have T3:=hide t3;clear hP t1 t2 t3;go_enter Tryz.func41,Tryz.ntmps41;(go_wp2_with fail);refine (zh R 1 99 _).mono ?_;rintro e w1 ⟨rfl,rfl⟩;rw [T1.out];(go_wp2_with fail);refine (zh C 0 100000 _).mono ?_;rintro e w2 ⟨rfl,rfl⟩;rw [T2.out];(go_wp2_with fail);refine (zh H 0 10 _).mono ?_;rintro e w3 ⟨rfl,rfl⟩;rw [T3.out];go_wp2;go_ret;exact ⟨rfl,zg _ _⟩
 cases t4:(decide (1≤B) && decide (B≤99))
 ·have e:Q=false:=by rw [← hP,t1,t2,t3,t4]; rfl
  subst e;have T1:=hide t1;have T2:=hide t2;have T3:=hide t3;have T4:=hide t4;clear hP t1 t2 t3 t4;go_enter Tryz.func41,Tryz.ntmps41;(go_wp2_with fail);refine (zh R 1 99 _).mono ?_;rintro e w1 ⟨rfl,rfl⟩;rw [T1.out];(go_wp2_with fail);refine (zh C 0 100000 _).mono ?_;rintro e w2 ⟨rfl,rfl⟩;rw [T2.out];(go_wp2_with fail);refine (zh H 0 10 _).mono ?_;rintro e w3 ⟨rfl,rfl⟩;rw [T3.out];(go_wp2_with fail);refine (zh B 1 99 _).mono ?_;rintro e w4 ⟨rfl,rfl⟩;rw [T4.out];go_wp2;go_ret;exact ⟨rfl,zg _ _⟩
 cases t5:(decide (0≤P) && decide (P≤7))
 ·have e:Q=false:=by rw [← hP,t1,t2,t3,t4,t5]; rfl
  subst e;have T1:=hide t1;have T2:=hide t2;have T3:=hide t3;have T4:=hide t4;have T5:=hide t5;clear hP t1 t2 t3 t4 t5;go_enter Tryz.func41,Tryz.ntmps41;(go_wp2_with fail);refine (zh R 1 99 _).mono ?_;rintro e w1 ⟨rfl,rfl⟩;rw [T1.out];(go_wp2_with fail);refine (zh C 0 100000 _).mono ?_;rintro e w2 ⟨rfl,rfl⟩;rw [T2.out];(go_wp2_with fail);refine (zh H 0 10 _).mono ?_;rintro e w3 ⟨rfl,rfl⟩;rw [T3.out];(go_wp2_with fail);refine (zh B 1 99 _).mono ?_;rintro e w4 ⟨rfl,rfl⟩;rw [T4.out];(go_wp2_with fail);refine (zh P 0 7 _).mono ?_;rintro e w5 ⟨rfl,rfl⟩;rw [T5.out];go_wp2;go_ret;exact ⟨rfl,zg _ _⟩
 have e:Q=true:=by rw [← hP,t1,t2,t3,t4,t5]; rfl
 subst e;have T1:=hide t1;have T2:=hide t2;have T3:=hide t3;have T4:=hide t4;have T5:=hide t5;clear hP t1 t2 t3 t4 t5;go_enter Tryz.func41,Tryz.ntmps41;go_wp2_with fail
 refine (zh R 1 99 _).mono ?_;rintro e w1 ⟨rfl,rfl⟩;rw [T1.out];go_wp2_with fail
 refine (zh C 0 100000 _).mono ?_;rintro e w2 ⟨rfl,rfl⟩;rw [T2.out];go_wp2_with fail
 refine (zh H 0 10 _).mono ?_;rintro e w3 ⟨rfl,rfl⟩;rw [T3.out];go_wp2_with fail
 refine (zh B 1 99 _).mono ?_;rintro e w4 ⟨rfl,rfl⟩;rw [T4.out];go_wp2_with fail
 refine (zh P 0 7 _).mono ?_;rintro e w5 ⟨rfl,rfl⟩;rw [T5.out];go_wp2;go_ret;exact ⟨rfl,zg _ _⟩

def zaY (R C B P R' C' B' P':Int):Bool :=
 if (R != R')=true then decide (R < R') else if (C != C')=true then decide (C < C') else if (B != B')=true then decide (B < B') else decide (P < P')

theorem zbo (R C H B P R' C' H' B' P':Int) (w:World) :
  Calls Tryz.prog 151 #[.agg #[.int .i64 R,.int .i64 C,.int .i64 H,.int .i64 B,.int .i64 P],.agg #[.int .i64 R',.int .i64 C',.int .i64 H',.int .i64 B',.int .i64 P']] w fun e w'=>e=.returned (.bool (zaY R C B P R' C' B' P'))∧Below w.heap.size w w':=by
 cases t1:(R != R')
 ·cases t2:(C != C')
  ·cases t3:(B != B')
   ·have e:zaY R C B P R' C' B' P'=decide (P < P'):=by unfold zaY; rw [t1,t2,t3]; rfl
    rw [e];clear e;go_enter Tryz.func151,Tryz.ntmps151;go_wp2;go_ret;exact ⟨rfl,zX _ _ _⟩
   ·have e:zaY R C B P R' C' B' P'=decide (B < B'):=by unfold zaY; rw [t1,t2,t3]; rfl
    rw [e];clear e;go_enter Tryz.func151,Tryz.ntmps151;go_wp2;go_ret;exact ⟨rfl,zX _ _ _⟩
  ·have e:zaY R C B P R' C' B' P'=decide (C < C'):=by unfold zaY; rw [t1,t2]; rfl
   rw [e];clear e;go_enter Tryz.func151,Tryz.ntmps151;go_wp2;go_ret;exact ⟨rfl,zX _ _ _⟩
 ·have e:zaY R C B P R' C' B' P'=decide (R < R'):=by unfold zaY; rw [t1]; rfl
  rw [e];clear e;go_enter Tryz.func151,Tryz.ntmps151;go_wp2;go_ret;exact ⟨rfl,zX _ _ _⟩

def zbh (R C H B P k:Int):Bool:=okVc R C H B P && ((decide (1≤k) && decide (k≤1000)) && okVc R (C+k) (H+1) B P)

theorem ze2 (R C H B P k:Int) (w:World) :
  Calls Tryz.prog 160 #[.agg #[.int .i64 R,.int .i64 C,.int .i64 H,.int .i64 B,.int .i64 P],.int .i64 k] w fun e w'=>e=.returned (.tuple #[if zbh R C H B P k=true then .agg #[.int .i64 R,.int .i64 (C+k),.int .i64 (H+1),.int .i64 B,.int .i64 P] else .agg #[.int .i64 R,.int .i64 C,.int .i64 H,.int .i64 B,.int .i64 P],.bool (zbh R C H B P k)])∧Below w.heap.size w w':=by
 have q2:=zX w (.cells #[.int .i64 R,.int .i64 C,.int .i64 H,.int .i64 B,.int .i64 P] 72) (.cells #[.int .i64 0,.int .i64 0,.int .i64 0,.int .i64 0,.int .i64 0] 72);cases t1:okVc R C H B P
 ·have e:zbh R C H B P k=false:=by unfold zbh; rw [t1]; rfl
  rw [e,if_neg (by simp)];have T1:=hide t1;clear e t1;go_enter Tryz.func160,Tryz.ntmps160;(go_wp2_with fail);refine (zau R C H B P _).mono ?_;rintro e w1 ⟨rfl,hb1⟩;rw [T1.out];obtain ⟨k0,k1⟩:=zcr hb1;obtain ⟨⟨x0,x1,x2,x3,x4⟩,f0,f1,f2,f3,f4⟩:=zx k0;obtain ⟨⟨y0,y1,y2,y3,y4⟩,g0,g1,g2,g3,g4⟩:=zx k1;have HB:=hide (zc q2 hb1);clear hb1 k0 k1;go_wp2;exact bodyPost_ret (v:=.tuple #[.agg #[.int .i64 R,.int .i64 C,.int .i64 H,.int .i64 B,.int .i64 P],.bool false]) (by simp [results,Tryz.results160,go_sem, *]) rfl ⟨rfl,zR HB.out (by omega) _ _ _ _ _⟩
 cases t2:(decide (1≤k) && decide (k≤1000))
 ·have e:zbh R C H B P k=false:=by unfold zbh; rw [t1,t2]; rfl
  rw [e,if_neg (by simp)];have T1:=hide t1;have T2:=hide t2;clear e t1 t2;go_enter Tryz.func160,Tryz.ntmps160;(go_wp2_with fail);refine (zau R C H B P _).mono ?_;rintro e w1 ⟨rfl,hb1⟩;rw [T1.out];obtain ⟨k0,k1⟩:=zcr hb1;obtain ⟨⟨x0,x1,x2,x3,x4⟩,f0,f1,f2,f3,f4⟩:=zx k0;obtain ⟨⟨y0,y1,y2,y3,y4⟩,g0,g1,g2,g3,g4⟩:=zx k1;have HB:=hide (zc q2 hb1);clear hb1 k0 k1;(go_wp2_with fail);refine (zh k 1 1000 _).mono ?_;rintro e w2 ⟨rfl,rfl⟩;rw [T2.out];go_wp2;exact bodyPost_ret (v:=.tuple #[.agg #[.int .i64 R,.int .i64 C,.int .i64 H,.int .i64 B,.int .i64 P],.bool false]) (by simp [results,Tryz.results160,go_sem, *]) rfl ⟨rfl,zR HB.out (by omega) _ _ _ _ _⟩
 obtain ⟨-,o2,o3,-,-⟩:=zfy t1;have hk:1≤k∧k≤1000:=by simpa using t2
 have es:zbh R C H B P k=okVc R (C+k) (H+1) B P:=by unfold zbh; rw [t1,t2]; rfl
 rw [es];clear es;cases t3:okVc R (C+k) (H+1) B P
 ·rw [if_neg (by simp)];have T1:=hide t1;have T2:=hide t2;have T3:=hide t3;clear t1 t2 t3;go_enter Tryz.func160,Tryz.ntmps160;(go_wp2_with fail);refine (zau R C H B P _).mono ?_;rintro e w1 ⟨rfl,hb1⟩;rw [T1.out];obtain ⟨k0,k1⟩:=zcr hb1;obtain ⟨⟨x0,x1,x2,x3,x4⟩,f0,f1,f2,f3,f4⟩:=zx k0;have HB:=hide (zc q2 hb1);have K0:=hide k0;have K1:=hide k1;clear hb1 k0 k1;(go_wp2_with fail);refine (zh k 1 1000 _).mono ?_;rintro e w2 ⟨rfl,rfl⟩;rw [T2.out];have lt0:=(Array.getElem?_eq_some_iff.1 K0.out).1;have ne1:¬w.heap.size=w2.heap.size:=by omega
  have ne2:¬w2.heap.size=w.heap.size:=by omega
  (go_wp2_with fail);refine (zau R (C+k) (H+1) B P _).mono ?_;rintro e w3 ⟨rfl,hb3⟩;rw [T3.out];clear x0 x1 x2 x3 x4 f0 f1 f2 f3 f4;have b3:=zc (zg w2 _) hb3;obtain ⟨⟨x0,x1,x2,x3,x4⟩,f0,f1,f2,f3,f4⟩:=zx (za K0.out b3);obtain ⟨⟨y0,y1,y2,y3,y4⟩,g0,g1,g2,g3,g4⟩:=zx (za K1.out b3);have HB3:=hide (zc HB.out b3);clear hb3 b3;go_wp2;exact bodyPost_ret (v:=.tuple #[.agg #[.int .i64 R,.int .i64 C,.int .i64 H,.int .i64 B,.int .i64 P],.bool false]) (by simp [results,Tryz.results160,go_sem, *]) rfl ⟨rfl,zR HB3.out (by omega) _ _ _ _ _⟩
 ·rw [if_pos rfl];have T1:=hide t1;have T2:=hide t2;have T3:=hide t3;clear t1 t2 t3;go_enter Tryz.func160,Tryz.ntmps160;(go_wp2_with fail);refine (zau R C H B P _).mono ?_;rintro e w1 ⟨rfl,hb1⟩;rw [T1.out];obtain ⟨k0,k1⟩:=zcr hb1;obtain ⟨⟨x0,x1,x2,x3,x4⟩,f0,f1,f2,f3,f4⟩:=zx k0;have HB:=hide (zc q2 hb1);have K0:=hide k0;have K1:=hide k1;clear hb1 k0 k1;(go_wp2_with fail);refine (zh k 1 1000 _).mono ?_;rintro e w2 ⟨rfl,rfl⟩;rw [T2.out];have lt0:=(Array.getElem?_eq_some_iff.1 K0.out).1;have ne1:¬w.heap.size=w2.heap.size:=by omega
  have ne2:¬w2.heap.size=w.heap.size:=by omega
  (go_wp2_with fail);refine (zau R (C+k) (H+1) B P _).mono ?_;rintro e w3 ⟨rfl,hb3⟩;rw [T3.out];clear x0 x1 x2 x3 x4 f0 f1 f2 f3 f4;have b3:=zc (zg w2 _) hb3;obtain ⟨⟨x0,x1,x2,x3,x4⟩,f0,f1,f2,f3,f4⟩:=zx (za (zt w2 _) hb3);obtain ⟨⟨y0,y1,y2,y3,y4⟩,g0,g1,g2,g3,g4⟩:=zx (za K1.out b3);have HB3:=hide (zc HB.out b3);clear hb3 b3;go_wp2;exact bodyPost_ret (v:=.tuple #[.agg #[.int .i64 R,.int .i64 (C+k),.int .i64 (H+1),.int .i64 B,.int .i64 P],.bool true]) (by simp [results,Tryz.results160,go_sem, *]) rfl ⟨rfl,zR HB3.out (by omega) _ _ _ _ _⟩

structure PT where
 up:Bool
 k:Int
 has:Bool
 v:VD

def ptF:Flat PT where
 k:=8
 cs:=fun x=>[.bool x.up,.int .i64 x.k,.bool x.has,.int .i64 x.v.r,.int .i64 x.v.c,.int .i64 x.v.h,.int .i64 x.v.b,.int .i64 x.v.p]
 len:=fun _=>rfl
 pos:=by decide
 one:=fun _ v hv=>by
  simp only [List.mem_cons,List.not_mem_nil,or_false] at hv;rcases hv with rfl | rfl | rfl | rfl | rfl | rfl | rfl | rfl <;> rfl

theorem pt_at {w:World} {ao:Option Addr} {len cap:Nat} {l:List PT} (h:GRow ptF w ao len cap l) (i:Nat) (hi:i < len):∃(x:PT) (b off:Nat),l[i]? = some x∧ao=some ⟨b,off,none⟩ ∧
  w.cell? ⟨b,off+i*8,none⟩=some (.bool x.up)∧w.cell? ⟨b,off+i*8+1,none⟩=some (.int .i64 x.k)∧w.cell? ⟨b,off+i*8+2,none⟩=some (.bool x.has) ∧
  w.cell? ⟨b,off+i*8+3,none⟩=some (.int .i64 x.v.r)∧w.cell? ⟨b,off+i*8+4,none⟩=some (.int .i64 x.v.c)∧w.cell? ⟨b,off+i*8+5,none⟩=some (.int .i64 x.v.h)∧w.cell? ⟨b,off+i*8+6,none⟩=some (.int .i64 x.v.b)∧w.cell? ⟨b,off+i*8+7,none⟩=some (.int .i64 x.v.p):=by
 obtain ⟨x,b,off,hx,ha,hc⟩:=h.at i hi;exact ⟨x,b,off,hx,ha,hc 0 _ rfl,hc 1 _ rfl,hc 2 _ rfl,hc 3 _ rfl,hc 4 _ rfl,hc 5 _ rfl,hc 6 _ rfl,hc 7 _ rfl⟩

def zee (v:VD):Bool:=v.r == 0 && (v.c == 0 && (v.h == 0 && (v.b == 0 && v.p == 0)))
def okVd (v:VD):Bool:=okVc v.r v.c v.h v.b v.p
def ptOk (x:PT):Bool:=(decide (1≤x.k) && decide (x.k≤1000)) && ((x.up || !x.has) && (if x.has then okVd x.v else zee x.v))

def stepV (v:VD) (k:Int):VD:=⟨v.r,v.c+k,v.h+1,v.b,v.p⟩
def zdi (v:VD) (k:Int):Bool:=zbh v.r v.c v.h v.b v.p k
def lessV (u v:VD):Bool:=zaY u.r u.c u.b u.p v.r v.c v.b v.p

def offers (id:Int) (x:PT):Bool:=x.up && (x.has && (zdi x.v x.k && decide (x.v.r < id)))

def zbx (id:Int) (s:Option (VD × Nat)) (i:Nat) (x:PT):Option (VD × Nat) :=
 if offers id x=true then
  match s with
  | none=>some (stepV x.v x.k,i)
  | some (f,j)=>if lessV (stepV x.v x.k) f=true then some (stepV x.v x.k,i) else some (f,j)
 else s
def zbe (id:Int) (l:List PT):Nat→Option (VD × Nat)
 | 0=>none
 | k+1=>match l[k]? with
  | some x=>zbx id (zbe id l k) k x
  | none=>zbe id l k
def zS (id:Int) (l:List PT):Option (VD × Nat):=zbe id l l.length

def bestV (id:Int):Option (VD × Nat)→VD
 | none=>⟨id,0,0,id,0⟩
 | some (f,_)=>⟨f.r,f.c,f.h,id,0⟩
def bestP:Option (VD × Nat)→Int
 | none => -1
 | some (_,j)=>(j:Int)
def fromV:Option (VD × Nat)→VD
 | none=>⟨0,0,0,0,0⟩
 | some (f,_)=>f

theorem zeu {id:Int} {l:List PT} {k:Nat} {x:PT} (h:l[k]? = some x):zbe id l (k+1)=zbx id (zbe id l k) k x:=by
 rw [zbe,h]

theorem zbv {id:Int} {s:Option (VD × Nat)} {i:Nat} {x:PT} (h:offers id x=false):zbx id s i x=s:=by
 unfold zbx;rw [if_neg (by simp [h])]

def sayV (id:Int) (l:List PT) (port:Int):VD:=⟨(bestV id (zS id l)).r,(bestV id (zS id l)).c,(bestV id (zS id l)).h,id,port⟩

def zdf (id:Int) (l:List PT) (i:Nat) (x:PT):Int :=
 if x.up=false then 4
 else if bestP (zS id l)=(i:Int) then 1
 else if (!x.has || lessV (sayV id l i) x.v)=true then 2
 else 3
def zaH (id:Int) (l:List PT) (port:Int):Int :=
 if (decide (0≤port) && decide (port≤(l.length:Int) - 1))=true then
  match l[port.toNat]? with
  | some x=>zdf id l port.toNat x
  | none=>4
 else 4

def za2 (id:Int) (l:List PT):Nat→Int
 | 0=>0
 | k+1=>if zaH id l (k:Int)≤2 then bits .or .i64 (za2 id l k) (2 ^ k) else za2 id l k
def zbc (id:Int) (l:List PT):Int:=za2 id l (min l.length 6)

structure FE where
 t:Int
 m:Int
 p:Int
 a:Int
 s:Bool

def entOk (e:FE):Bool :=
 (decide (1≤e.t) && decide (e.t≤99)) && ((decide (1≤e.m) && decide (e.m≤9999)) && ((decide (0≤e.p) && decide (e.p≤7)) && ((decide (0≤e.a) && decide (e.a≤4)) && (!e.s || (e.a == 0)))))

theorem zgt (e:FE):entOk e=true↔(1≤e.t∧e.t≤99)∧(1≤e.m∧e.m≤9999)∧(0≤e.p∧e.p≤7)∧(0≤e.a∧e.a≤4)∧(e.s=true→e.a=0):=by
 unfold entOk;cases e.s <;> simp

def ahead (e:FE) (t m:Int):Bool:=if (e.t != t)=true then decide (e.t < t) else decide (e.m < m)

def both (e:FE) (t m:Int):Bool:=(e.t == t) && (e.m == m)

theorem zbL {e:FE} {t m:Int}:both e t m=true↔e.t=t∧e.m=m:=by simp [both]
theorem za3 {e:FE} {t m:Int}:both e t m=false↔¬(e.t=t∧e.m=m):=by
 rw [← zbL]; simp

theorem zaV {e:FE} {t m:Int}:ahead e t m=true↔e.t < t∨(e.t=t∧e.m < m):=by
 unfold ahead;by_cases h:e.t=t
 ·simp [h]
 ·simp [h]
theorem zcf {e:FE} {t m:Int}:ahead e t m=false↔¬(e.t < t∨(e.t=t∧e.m < m)):=by
 rw [← zaV]; simp

def rises:List FE→Bool
 | []=>true
 | [e]=>entOk e
 | e::f::r=>entOk e && (ahead e f.t f.m && rises (f::r))

def fdbOk (l:List FE):Bool:=rises l && decide ((l.length:Int)≤12)

def Sorted (l:List FE):Prop:=(∀e∈l,entOk e=true)∧l.Pairwise (fun e f=>ahead e f.t f.m=true)

theorem zhb {e f g:FE} (h1:ahead e f.t f.m=true) (h2:ahead f g.t g.m=true):ahead e g.t g.m=true:=by
 rw [zaV] at *;omega

theorem zea:∀(l:List FE),rises l=true↔Sorted l
 | []=>by simp [rises,Sorted]
 | [e]=>by simp [rises,Sorted]
 | e::f::r=>by
  have ih:=zea (f::r);unfold rises;simp only [Bool.and_eq_true,ih]
  constructor
  ·rintro ⟨h1,h2,h3,h4⟩;refine ⟨?_, ?_⟩
   ·intro x hx;rcases List.mem_cons.1 hx with rfl | hx
    ·exact h1
    ·exact h3 x hx
   ·refine List.pairwise_cons.2 ⟨?_,h4⟩;intro x hx;rcases List.mem_cons.1 hx with rfl | hx
    ·exact h2
    ·exact zhb h2 ((List.pairwise_cons.1 h4).1 x hx)
  ·rintro ⟨h1,h2⟩;obtain ⟨h3,h4⟩:=List.pairwise_cons.1 h2;exact ⟨h1 e (by simp),h3 f (by simp),fun x hx=>h1 x (List.mem_cons_of_mem _ hx),h4⟩

theorem zaP (l:List FE):fdbOk l=true↔Sorted l∧l.length≤12:=by
 unfold fdbOk;rw [Bool.and_eq_true,zea,decide_eq_true_eq]
 constructor <;> rintro ⟨h1,h2⟩ <;> exact ⟨h1,by omega⟩

theorem zbY {e:FE} {l:List FE} (h:Sorted (e::l)):Sorted l:=⟨fun x hx=>h.1 x (List.mem_cons_of_mem _ hx),(List.pairwise_cons.1 h.2).2⟩
theorem zcw {e:FE} {l:List FE} (h:Sorted (e::l)):entOk e=true∧∀x∈l,ahead e x.t x.m=true:=⟨h.1 e (by simp),(List.pairwise_cons.1 h.2).1⟩

def lookE (l:List FE) (t m:Int):Option FE:=l.find? (fun e=>both e t m)

theorem zgJ {l:List FE} {t m:Int}:lookE l t m=none↔∀e∈l,¬(e.t=t∧e.m=m):=by
 unfold lookE;rw [List.find?_eq_none]
 constructor
 ·intro h e he hb;exact h e he (zbL.2 hb)
 ·intro h e he hb;exact h e he (zbL.1 hb)

def putGo (e:FE):Bool→List FE→List FE
 | d,[]=>if d=true then [] else [e]
 | d,x::r =>
  if (!d && !ahead x e.t e.m)=true then e::(if both x e.t e.m=true then putGo e true r else x::putGo e true r)
  else if both x e.t e.m=true then putGo e d r else x::putGo e d r

def putF8 (e:FE) (l:List FE):List FE:=putGo e false l

theorem zgU {e:FE} {l:List FE} (h:∀x∈l,ahead e x.t x.m=true):putGo e true l=l:=by
 induction l with
 | nil=>rfl
 | cons x r ih =>
  unfold putGo;have hx:=h x (by simp);rw [zaV] at hx;rw [za3.2 (by omega)]
  simp [ih (fun y hy=>h y (List.mem_cons_of_mem _ hy))]

def insF (e:FE):List FE→List FE
 | []=>[e]
 | x::r=>if ahead x e.t e.m=true then x::insF e r else if both x e.t e.m=true then e::r else e::x::r

theorem zcQ {e:FE} {l:List FE} (h:Sorted l):putF8 e l=insF e l:=by
 unfold putF8
 induction l with
 | nil=>rfl
 | cons x r ih =>
  obtain ⟨_,hx⟩:=zcw h;unfold putGo insF;cases ha:ahead x e.t e.m
  ·have hb:∀y∈r,ahead e y.t y.m=true:=by
    intro y hy
    have:=hx y hy
    rw [zaV] at *;rw [zcf] at ha;omega
   rw [zgU hb]
   simp
   split <;> rfl
  ·have ha':=ha;rw [zaV] at ha';rw [za3.2 (by omega)]
   simp [ih (zbY h)]

theorem zf1 {e:FE} {l:List FE} (h:Sorted l) {x:FE}:x∈insF e l↔x=e∨(x∈l∧¬(x.t=e.t∧x.m=e.m)):=by
 induction l with
 | nil=>simp [insF]
 | cons y r ih =>
  obtain ⟨_,hy⟩:=zcw h;unfold insF;cases ha:ahead y e.t e.m
  ·have hr:∀z∈r,¬(z.t=e.t∧z.m=e.m):=by
    intro z hz
    have:=hy z hz
    rw [zaV] at this;rw [zcf] at ha;omega
   cases hb:both y e.t e.m
   ·rw [za3] at hb;simp only [Bool.false_eq_true,if_false,List.mem_cons]
    constructor
    ·rintro (rfl | rfl | hx)
     ·exact .inl rfl
     ·exact .inr ⟨.inl rfl,hb⟩
     ·exact .inr ⟨.inr hx,hr x hx⟩
    ·rintro (rfl | ⟨rfl | hx,_⟩)
     ·exact .inl rfl
     ·exact .inr (.inl rfl)
     ·exact .inr (.inr hx)
   ·rw [zbL] at hb;simp only [Bool.false_eq_true,if_false,if_true,List.mem_cons]
    constructor
    ·rintro (rfl | hx)
     ·exact .inl rfl
     ·exact .inr ⟨.inr hx,hr x hx⟩
    ·rintro (rfl | ⟨rfl | hx,hn⟩)
     ·exact .inl rfl
     ·exact absurd hb hn
     ·exact .inr hx
  ·simp only [if_true,List.mem_cons,ih (zbY h)];have hb:¬(y.t=e.t∧y.m=e.m):=by rw [zaV] at ha; omega
   constructor
   ·rintro (rfl | rfl | ⟨hx,hn⟩)
    ·exact .inr ⟨.inl rfl,hb⟩
    ·exact .inl rfl
    ·exact .inr ⟨.inr hx,hn⟩
   ·rintro (rfl | ⟨rfl | hx,hn⟩)
    ·exact .inr (.inl rfl)
    ·exact .inl rfl
    ·exact .inr (.inr ⟨hx,hn⟩)

theorem zeW {e:FE} (he:entOk e=true) {l:List FE} (h:Sorted l):Sorted (insF e l):=by
 refine ⟨?_, ?_⟩
 ·intro x hx;rcases (zf1 h).1 hx with rfl | ⟨hx,_⟩
  ·exact he
  ·exact h.1 x hx
 ·induction l with
  | nil=>simp [insF]
  | cons y r ih =>
   obtain ⟨_,hy⟩:=zcw h;unfold insF;cases ha:ahead y e.t e.m
   ·have hr:∀z∈r,ahead e z.t z.m=true:=by
     intro z hz
     have:=hy z hz
     rw [zaV] at *;rw [zcf] at ha;omega
    cases hb:both y e.t e.m
    ·simp only [Bool.false_eq_true,if_false];refine List.pairwise_cons.2 ⟨?_,h.2⟩;intro z hz;rcases List.mem_cons.1 hz with rfl | hz
     ·rw [zcf] at ha;rw [za3] at hb;rw [zaV];omega
     ·exact hr z hz
    ·simp only [Bool.false_eq_true,if_false,if_true];exact List.pairwise_cons.2 ⟨hr,(List.pairwise_cons.1 h.2).2⟩
   ·simp only [if_true];refine List.pairwise_cons.2 ⟨?_,ih (zbY h)⟩;intro z hz;rcases (zf1 (zbY h)).1 hz with rfl | ⟨hz,_⟩
    ·exact ha
    ·exact hy z hz

theorem zeP {e:FE} {l:List FE} (h:Sorted l):(insF e l).length=if (lookE l e.t e.m).isSome=true then l.length else l.length+1:=by
 induction l with
 | nil=>rfl
 | cons y r ih =>
  obtain ⟨_,hy⟩:=zcw h;unfold insF lookE;rw [List.find?_cons];cases ha:ahead y e.t e.m
  ·cases hb:both y e.t e.m
   ·have hr:lookE r e.t e.m=none:=zgJ.2 (by
     intro z hz
     have:=hy z hz
     rw [zaV] at this;rw [zcf] at ha;omega)
    unfold lookE at hr
    simp [hr]
   ·simp
  ·have hb:both y e.t e.m=false:=za3.2 (by rw [zaV] at ha; omega);rw [hb];have ih:=ih (zbY h);unfold lookE at ih;simp only [if_true,List.length_cons,ih]
   split <;> rfl

def atF (l:List FE) (t m:Int):Int :=
 match l.findIdx? (fun e=>both e t m) with
 | some i=>i
 | none => -1

def zdw (l:List FE) (t m p:Int):Bool :=
 fdbOk l && (entOk ⟨t,m,p,0,false⟩ && (match lookE l t m with | some e => !e.s | none=>decide (l.length < 12)))
def zbu (l:List FE) (t m p:Int):List FE:=if zdw l t m p=true then putF8 ⟨t,m,p,0,false⟩ l else l

def ageE (e:FE):Option FE:=if e.s=true then some e else if e.a < 4 then some ⟨e.t,e.m,e.p,e.a+1,e.s⟩ else none
def ageF (l:List FE):List FE:=l.filterMap ageE

def zY (l:List FE) (p:Int):List FE:=l.filter (fun e=>e.s || (e.p != p))

def zfq (l:List FE) (t m p:Int):Bool :=
 fdbOk l && (entOk ⟨t,m,p,0,true⟩ && ((lookE l t m).isSome || decide (l.length < 12)))
def setF (l:List FE) (t m p:Int):List FE:=if zfq l t m p=true then putF8 ⟨t,m,p,0,true⟩ l else l

theorem zh3 {l:List FE} (h:fdbOk l=true) (t m p:Int):fdbOk (zbu l t m p)=true:=by
 unfold zbu
 split
 ·rename_i hc
  unfold zdw at hc;simp only [Bool.and_eq_true] at hc;obtain ⟨_,he,hm⟩:=hc;obtain ⟨hs,hl⟩:=(zaP l).1 h;rw [zcQ hs,zaP];refine ⟨zeW he hs, ?_⟩;rw [zeP hs];cases hk:lookE l t m with
  | some e=>simp [hl]
  | none =>
   rw [hk] at hm
   simp at hm
   simp
   omega
 ·exact h

theorem zk9 {l:List FE} (h:fdbOk l=true) (t m p:Int):fdbOk (setF l t m p)=true:=by
 unfold setF
 split
 ·rename_i hc
  unfold zfq at hc;simp only [Bool.and_eq_true] at hc;obtain ⟨_,he,hm⟩:=hc;obtain ⟨hs,hl⟩:=(zaP l).1 h;rw [zcQ hs,zaP];refine ⟨zeW he hs, ?_⟩;rw [zeP hs];cases hk:lookE l t m with
  | some e=>simp [hl]
  | none =>
   rw [hk] at hm
   simp at hm
   simp
   omega
 ·exact h

theorem zeo {e f:FE} (h:ageE e=some f):f.t=e.t∧f.m=e.m∧f.p=e.p∧f.s=e.s∧((e.s=true∧f.a=e.a)∨(e.s=false∧e.a < 4∧f.a=e.a+1)):=by
 unfold ageE at h;cases hs:e.s
 ·rw [hs] at h;simp only [Bool.false_eq_true,if_false] at h
  split at h
  ·rename_i ha
   cases h;exact ⟨rfl,rfl,rfl,rfl,.inr ⟨rfl,ha,rfl⟩⟩
  ·cases h
 ·rw [hs] at h;simp only [if_true] at h;cases h;exact ⟨rfl,rfl,rfl,hs,.inl ⟨rfl,rfl⟩⟩

theorem zis {l:List FE} (h:Sorted l):Sorted (ageF l):=by
 unfold ageF;refine ⟨?_, ?_⟩
 ·intro f hf;obtain ⟨e,he,hef⟩:=List.mem_filterMap.1 hf;have h1:=h.1 e he;obtain ⟨a1,a2,a3,a4,a5⟩:=zeo hef;rw [zgt] at *;rcases a5 with ⟨b1,b2⟩ | ⟨b1,b2,b3⟩
  ·rw [a1,a2,a3,a4,b2]; exact h1
  ·rw [a1,a2,a3,a4,b3,b1];refine ⟨h1.1,h1.2.1,h1.2.2.1,by omega,by simp⟩
 ·rw [List.pairwise_filterMap];refine h.2.imp ?_;intro a b hab x hx y hy;obtain ⟨a1,a2,-⟩:=zeo hx;obtain ⟨b1,b2,-⟩:=zeo hy;rw [zaV] at *;rw [a1,a2,b1,b2];exact hab

theorem zkY {l:List FE} (h:fdbOk l=true):fdbOk (ageF l)=true:=by
 rw [zaP] at *;exact ⟨zis h.1,Nat.le_trans (List.length_filterMap_le _ _) h.2⟩

theorem zi4 {l k:List FE} (h:Sorted l) (hs:k.Sublist l):Sorted k:=⟨fun e he=>h.1 e (hs.subset he),h.2.sublist hs⟩

theorem zkt {l:List FE} (h:fdbOk l=true) (p:Int):fdbOk (zY l p)=true:=by
 rw [zaP] at *;exact ⟨zi4 h.1 List.filter_sublist,Nat.le_trans (List.length_filter_le _ _) h.2⟩

section
open Go.RowKit

def fentF:Flat FE where
 k:=5
 cs:=fun e=>[.int .i64 e.t,.int .i64 e.m,.int .i64 e.p,.int .i64 e.a,.bool e.s]
 len:=fun _=>rfl
 pos:=by decide
 one:=fun _ v hv=>by
  simp only [List.mem_cons,List.not_mem_nil,or_false] at hv;rcases hv with rfl | rfl | rfl | rfl | rfl <;> rfl

def FE.Rng (e:FE):Prop:=(-9223372036854775808≤e.t∧e.t≤9223372036854775807)∧(-9223372036854775808≤e.m∧e.m≤9223372036854775807)∧(-9223372036854775808≤e.p∧e.p≤9223372036854775807)∧(-9223372036854775808≤e.a∧e.a≤9223372036854775807)

theorem zbH {w:World} {ao:Option Addr} {len cap:Nat} {l:List FE} (h:GRow fentF w ao len cap l) (i:Nat) (hi:i < len):∃(x:FE) (b off:Nat),l[i]? = some x∧ao=some ⟨b,off,none⟩ ∧
  w.cell? ⟨b,off+i*5,none⟩=some (.int .i64 x.t)∧w.cell? ⟨b,off+i*5+1,none⟩=some (.int .i64 x.m)∧w.cell? ⟨b,off+i*5+2,none⟩=some (.int .i64 x.p)∧w.cell? ⟨b,off+i*5+3,none⟩=some (.int .i64 x.a)∧w.cell? ⟨b,off+i*5+4,none⟩=some (.bool x.s):=by
 obtain ⟨x,b,off,hx,ha,hc⟩:=h.at i hi;exact ⟨x,b,off,hx,ha,hc 0 _ rfl,hc 1 _ rfl,hc 2 _ rfl,hc 3 _ rfl,hc 4 _ rfl⟩

section
open Go.ChangeShapes Go.WideShapes Go.ChangeAt
variable {H:Type} {enc:TypeId × Value→H} {P:Program} {w:World}

end

end

structure VR where
 i:Int
 m:Int
 b:Int

structure VT where
 rows:List VR
 own:List Int

def zaT (l:List VR) (id:Int):Option Nat:=l.findIdx? (fun r=>r.i == id)
def rowAt (l:List VR) (id:Int):Int:=match zaT l id with
 | some k=>k
 | none => -1

def in3 (x lo hi:Int):Bool:=decide (lo≤x) && decide (x≤hi)
def allOf (p:Nat):Int:=2 ^ p - 1

def zbi (all:Int) (r:VR):Bool:=in3 r.i 1 99 && in3 r.m 0 all && in3 r.b 0 all && (bits .and .i64 r.b r.m == r.b)

def vrises:List VR→Bool
 | []=>true
 | [_]=>true
 | e::f::r=>decide (e.i < f.i) && vrises (f::r)

def zU (v:VT) (ports:Int):Bool :=
 in3 ports 1 6 && ((v.own.length:Int) == ports) && decide (v.rows.length≤6) && v.rows.all (zbi (allOf ports.toNat)) && vrises v.rows && v.own.all (fun p=>(zaT v.rows p).isSome)

def bitOf (n port:Int):Bool:=in3 port 0 7 && (bits .and .i64 (n / 2 ^ port.toNat) 1 == 1)

def zT (l:List VR) (r:VR):Bool→List VR
 | d=>match l with
  | []=>if d then [] else [r]
  | x::t=>(if !d && decide (r.i≤x.i) then [r] else [])++(if x.i != r.i then [x] else [])++zT t r (d || decide (r.i≤x.i))

theorem zgZ {l:List VR} {id:Int} {k:Nat} {x:VR} (hno:∀j y,j < k→l[j]? = some y→(y.i == id)=false) (hx:l[k]? = some x) (he:(x.i == id)=true):zaT l id=some k:=by
 obtain ⟨hk,rfl⟩:=List.getElem?_eq_some_iff.1 hx;refine List.findIdx?_eq_some_iff_getElem.2 ⟨hk,he,fun j hj => ?_⟩
 have:=hno j l[j] hj (List.getElem?_eq_getElem (by omega))
 simp [this]

theorem zhJ {l:List VR} {id:Int} (hno:∀(j:Nat) (y:VR),l[j]? = some y→(y.i == id)=false):zaT l id=none:=by
 refine List.findIdx?_eq_none_iff.2 fun x hx => ?_
 obtain ⟨j,hj⟩:=List.mem_iff_getElem?.1 hx;exact hno j x hj

theorem zhK {l:List VR} {id:Int} {k:Nat} (h:zaT l id=some k):∃x,l[k]? = some x∧(x.i == id)=true∧l.find? (fun r=>r.i == id)=some x:=by
 obtain ⟨hk,he,hno⟩:=List.findIdx?_eq_some_iff_getElem.1 h;refine ⟨l[k],List.getElem?_eq_getElem hk,he, ?_⟩;refine List.find?_eq_some_iff_getElem.2 ⟨he,k,hk,rfl,fun j hj => ?_⟩
 have:=hno j hj
 simpa using this

theorem zip {l:List VR} {id:Int} {k:Nat} {x:VR} (hno:∀j y,j < k→l[j]? = some y→(y.i == id)=false) (hx:l[k]? = some x) (he:(x.i == id)=false):∀j y,j < k+1→l[j]? = some y→(y.i == id)=false:=by
 intro j y hj hy;by_cases e:j=k
 ·subst e;rw [hx] at hy;cases hy;exact he
 ·exact hno j y (by omega) hy

theorem zeV {l:List VR} {id:Int} {k:Nat} {x:VR} (hno:∀j y,j < k→l[j]? = some y→(y.i == id)=false) (hx:l[k]? = some x) (he:(x.i == id)=true):rowAt l id=k:=by
 unfold rowAt;rw [zgZ hno hx he]
theorem zfF {l:List VR} {id:Int} (hno:∀(j:Nat) (y:VR),l[j]? = some y→(y.i == id)=false):rowAt l id = -1:=by
 unfold rowAt;rw [zhJ hno]

def cI (zs:List Int):List Value:=zs.map (Value.int .i64)

def I64s (zs:List Int):Prop:=∀z∈zs,-9223372036854775808≤z∧z≤9223372036854775807

theorem zgp (zs:List Int):(cI zs).length=zs.length:=by simp [cI]
theorem zlE (a b:List Int):cI (a++b)=cI a++cI b:=by simp [cI]
theorem zkZ (zs:List Int) (j:Nat) (h:j < zs.length):(cI zs)[j]? = some (.int .i64 (zs.getD j 0)):=by
 simp [cI,List.getElem?_map,List.getElem?_eq_getElem h]

structure IRow (w:World) (ao:Option Addr) (len cap:Nat) (zs:List Int):Prop where
 size:zs.length=len
 le:len≤cap
 top:cap≤maxLen
 nil:ao=none→cap=0
 byte:I64s zs
 cell:len=0∨∃b off,ao=some ⟨b,off,none⟩∧∀i,i < len→w.cell? ⟨b,off+i,none⟩=some (.int .i64 (zs.getD i 0))

theorem IRow.below {w w':World} {ao:Option Addr} {len cap:Nat} {zs:List Int} (h:IRow w ao len cap zs) (hb:Below w.heap.size w w'):IRow w' ao len cap zs where
 size:=h.size
 le:=h.le
 top:=h.top
 nil:=h.nil
 byte:=h.byte
 cell:=by
  rcases h.cell with h0 | ⟨b,off,ha,hc⟩
  ·exact .inl h0
  ·exact .inr ⟨b,off,ha,fun i hi=>by rw [hb.cell (zo (hc i hi))]; exact hc i hi⟩

theorem zhr {w:World} {base:Nat} {v:Value} {n:Nat} {zs:List Int} (h:w.ownsRow base 3 1 v n (cI zs)) (hz:I64s zs) :
  ∃ao cap,v=.slice ao n cap∧IRow w ao n cap zs:=by
 have hl:zs.length=n:=by have:=h.1; simpa [cI] using this
 rcases h.2 with ⟨rfl,rfl⟩ | ⟨g,cap,cur,rfl,hg,hh,h1,h2,h3,h4⟩
 ·exact ⟨none,0,rfl,hl,Nat.le_refl _,Nat.zero_le _,fun _=>rfl,hz,.inl rfl⟩
 ·refine ⟨_,cap,rfl,hl,h1,h2,(by intro h; cases h),hz,.inr ⟨g,0,rfl,fun i hi => ?_⟩⟩
  have:=h.cellAt i (by omega)
  rw [Nat.zero_add,this,zkZ zs i (by omega)]

theorem Tryz.infoI64:(Tryz.prog.info? 3).map (fun i=>(i.zero,i.size,i.bytes))=some (some (.int .i64 0),1,8):=by kernel_rfl

theorem IRow.news {w:World} {ao:Option Addr} {len cap:Nat} {zs:List Int} (h:IRow w ao len cap zs) (ad:Addr) (ha:ao=some ad) (j:Nat) (u:Value) (hu:(cI zs)[j]? = some u):w.cell? (ad.add j)=some u:=by
 have hj:j < zs.length:=by
  by_cases hlt:j < zs.length
  ·exact hlt
  ·rw [List.getElem?_eq_none (by rw [zgp]; omega)] at hu;cases hu
 rw [zkZ _ _ hj] at hu;rcases h.cell with h0 | ⟨b,off,hb,hc⟩
 ·have:=h.size; omega
 ·rw [ha] at hb;cases hb;rw [← hu];rw [zck]; exact hc j (by have:=h.size; omega)

theorem zku {zs:List Int} (h:I64s zs) (j:Nat) : -9223372036854775808≤zs.getD j 0∧zs.getD j 0≤9223372036854775807:=by
 by_cases hj:j < zs.length
 ·rw [List.getD_eq_getElem?_getD,List.getElem?_eq_getElem hj]; exact h _ (List.getElem_mem hj)
 ·rw [List.getD_eq_getElem?_getD,List.getElem?_eq_none (by omega)]; simp

theorem IRow.at {w:World} {ao:Option Addr} {len cap:Nat} {zs:List Int} (h:IRow w ao len cap zs) (hp:0 < len):∃b off,ao=some ⟨b,off,none⟩∧∀i,i < len→w.cell? ⟨b,off+i,none⟩=some (.int .i64 (zs.getD i 0)):=by
 rcases h.cell with h0 | h0
 ·omega
 ·exact h0

theorem I64s.at {zs:List Int} (h:I64s zs) (j:Nat) : -9223372036854775808≤zs.getD j 0∧zs.getD j 0≤9223372036854775807:=zku h j

theorem zcp {w:World} {base:Nat} {ao:Option Addr} {n cap:Nat} {zs:List Int} (h:w.ownsRow base 3 1 (.slice ao n cap) n (cI zs)) (hz:I64s zs):IRow w ao n cap zs:=by
 obtain ⟨ao',cap',e,hr⟩:=zhr h hz;cases e;exact hr

def vrowF:Flat VR where
 k:=3
 cs:=fun e=>[.int .i64 e.i,.int .i64 e.m,.int .i64 e.b]
 len:=fun _=>rfl
 pos:=by decide
 one:=fun _ v hv=>by
  simp only [List.mem_cons,List.not_mem_nil,or_false] at hv;rcases hv with rfl | rfl | rfl <;> rfl

theorem zb2 {w:World} {ao:Option Addr} {len cap:Nat} {l:List VR} (h:GRow vrowF w ao len cap l) (i:Nat) (hi:i < len):∃(x:VR) (b off:Nat),l[i]? = some x∧ao=some ⟨b,off,none⟩ ∧
  w.cell? ⟨b,off+i*3,none⟩=some (.int .i64 x.i)∧w.cell? ⟨b,off+i*3+1,none⟩=some (.int .i64 x.m)∧w.cell? ⟨b,off+i*3+2,none⟩=some (.int .i64 x.b):=by
 obtain ⟨x,b,off,hx,ha,hc⟩:=h.at i hi;exact ⟨x,b,off,hx,ha,hc 0 _ rfl,hc 1 _ rfl,hc 2 _ rfl⟩

structure VTab (w:World) (a:Option Addr) (n c:Nat) (o:Option Addr) (p q:Nat) (v:VT):Prop where
 rows:GRow vrowF w a n c v.rows
 own:IRow w o p q v.own

theorem VTab.below {w w':World} {a:Option Addr} {n c:Nat} {o:Option Addr} {p q:Nat} {v:VT} (h:VTab w a n c o p q v) (hb:Below w.heap.size w w'):VTab w' a n c o p q v :=
 ⟨h.rows.below hb,h.own.below hb⟩

structure BR where
 id:Int
 name:ByteArray
 ports:List PT
 f:List FE
 v:VT
 ticks:Int
 parse:Int
 word:Int
 drops:Int
 vers:Int

def in1m (x:Int):Bool:=decide (0≤x) && decide (x≤1000000)
def zal (a b c d e:Int):Bool:=in1m a && (in1m b && (in1m c && (in1m d && in1m e)))
def zz (b:BR):Bool :=
 b.ports.all ptOk && (in3 b.id 1 99 && (decide ((b.name.size:Int)≤10) && (in3 (b.ports.length:Int) 1 6 && (fdbOk b.f && (zU b.v (b.ports.length:Int) && zal b.ticks b.parse b.word b.drops b.vers)))))

structure BrRow (w:World) (a:Option Addr) (n c:Nat) (fa:Option Addr) (fn fc:Nat) (ra:Option Addr) (rn rc:Nat) (oa:Option Addr) (on oc:Nat) (b:BR):Prop where
 ports:GRow ptF w a n c b.ports
 f:GRow fentF w fa fn fc b.f
 v:VTab w ra rn rc oa on oc b.v

theorem BrRow.below {w w':World} {a:Option Addr} {n c:Nat} {fa:Option Addr} {fn fc:Nat} {ra:Option Addr} {rn rc:Nat} {oa:Option Addr} {on oc:Nat} {b:BR} (h:BrRow w a n c fa fn fc ra rn rc oa on oc b) (hb:Below w.heap.size w w'):BrRow w' a n c fa fn fc ra rn rc oa on oc b :=
 ⟨h.ports.below hb,h.f.below hb,h.v.below hb⟩

structure BV where
 a:Option Addr
 n:Nat
 c:Nat
 fa:Option Addr
 fn:Nat
 fc:Nat
 ra:Option Addr
 rn:Nat
 rc:Nat
 oa:Option Addr
 on:Nat
 oc:Nat
 B:BR

def BV.Reads (w:World) (x:BV):Prop:=BrRow w x.a x.n x.c x.fa x.fn x.fc x.ra x.rn x.rc x.oa x.on x.oc x.B

def brF:Flat BV where
 k:=11
 cs:=fun x=>[.int .i64 x.B.id,.string x.B.name,.slice x.a x.n x.c,.slice x.fa x.fn x.fc,.slice x.ra x.rn x.rc,.slice x.oa x.on x.oc,.int .i64 x.B.ticks,.int .i64 x.B.parse,.int .i64 x.B.word,.int .i64 x.B.drops,.int .i64 x.B.vers]
 len:=fun _=>rfl
 pos:=by decide
 one:=fun _ v hv=>by
  simp only [List.mem_cons,List.not_mem_nil,or_false] at hv;rcases hv with rfl | rfl | rfl | rfl | rfl | rfl | rfl | rfl | rfl | rfl | rfl <;> rfl

theorem br_at {w:World} {ao:Option Addr} {len cap:Nat} {l:List BV} (h:GRow brF w ao len cap l) (i:Nat) (hi:i < len):∃(x:BV) (b off:Nat),l[i]? = some x∧ao=some ⟨b,off,none⟩∧w.cell? ⟨b,off+i*11,none⟩=some (.int .i64 x.B.id)∧w.cell? ⟨b,off+i*11+1,none⟩=some (.string x.B.name)∧w.cell? ⟨b,off+i*11+2,none⟩=some (.slice x.a x.n x.c)∧w.cell? ⟨b,off+i*11+3,none⟩=some (.slice x.fa x.fn x.fc)∧w.cell? ⟨b,off+i*11+4,none⟩=some (.slice x.ra x.rn x.rc)∧w.cell? ⟨b,off+i*11+5,none⟩=some (.slice x.oa x.on x.oc)∧w.cell? ⟨b,off+i*11+6,none⟩=some (.int .i64 x.B.ticks)∧w.cell? ⟨b,off+i*11+7,none⟩=some (.int .i64 x.B.parse)∧w.cell? ⟨b,off+i*11+8,none⟩=some (.int .i64 x.B.word)∧w.cell? ⟨b,off+i*11+9,none⟩=some (.int .i64 x.B.drops)∧w.cell? ⟨b,off+i*11+10,none⟩=some (.int .i64 x.B.vers):=by
 obtain ⟨x,b,off,hx,ha,hc⟩:=h.at i hi;exact ⟨x,b,off,hx,ha,hc 0 _ rfl,hc 1 _ rfl,hc 2 _ rfl,hc 3 _ rfl,hc 4 _ rfl,hc 5 _ rfl,hc 6 _ rfl,hc 7 _ rfl,hc 8 _ rfl,hc 9 _ rfl,hc 10 _ rfl⟩

theorem zjc:(Tryz.prog.info? 61).map (fun i=>(i.zero,i.size,i.bytes))=some (some (.agg #[.int .i64 0,.string ⟨#[]⟩,.slice none 0 0,.slice none 0 0,.slice none 0 0,.slice none 0 0,.int .i64 0,.int .i64 0,.int .i64 0,.int .i64 0,.int .i64 0]),brF.k,160):=by kernel_rfl

abbrev BV.val (x:BV):Value:=.agg #[.int .i64 x.B.id,.string x.B.name,.slice x.a x.n x.c,.slice x.fa x.fn x.fc,.slice x.ra x.rn x.rc,.slice x.oa x.on x.oc,.int .i64 x.B.ticks,.int .i64 x.B.parse,.int .i64 x.B.word,.int .i64 x.B.drops,.int .i64 x.B.vers]

theorem BV.Reads.below {w w':World} {x:BV} (h:x.Reads w) (hb:Below w.heap.size w w'):x.Reads w':=BrRow.below h hb

structure LK where
 a:Int
 p:Int
 b:Int
 q:Int
 deriving DecidableEq

structure SY where
 l:Int
 back:Bool
 v:VD

def linkF:Flat LK where
 k:=4
 cs:=fun x=>[.int .i64 x.a,.int .i64 x.p,.int .i64 x.b,.int .i64 x.q]
 len:=fun _=>rfl
 pos:=by decide
 one:=fun _ v hv=>by
  simp only [List.mem_cons,List.not_mem_nil,or_false] at hv;rcases hv with rfl | rfl | rfl | rfl <;> rfl

def sayF:Flat SY where
 k:=7
 cs:=fun x=>[.int .i64 x.l,.bool x.back,.int .i64 x.v.r,.int .i64 x.v.c,.int .i64 x.v.h,.int .i64 x.v.b,.int .i64 x.v.p]
 len:=fun _=>rfl
 pos:=by decide
 one:=fun _ v hv=>by
  simp only [List.mem_cons,List.not_mem_nil,or_false] at hv;rcases hv with rfl | rfl | rfl | rfl | rfl | rfl | rfl <;> rfl

theorem zaX {w:World} {ao:Option Addr} {len cap:Nat} {l:List LK} (h:GRow linkF w ao len cap l) (i:Nat) (hi:i < len):∃(x:LK) (b off:Nat),l[i]? = some x∧ao=some ⟨b,off,none⟩∧w.cell? ⟨b,off+i*4,none⟩=some (.int .i64 x.a)∧w.cell? ⟨b,off+i*4+1,none⟩=some (.int .i64 x.p)∧w.cell? ⟨b,off+i*4+2,none⟩=some (.int .i64 x.b)∧w.cell? ⟨b,off+i*4+3,none⟩=some (.int .i64 x.q):=by
 obtain ⟨x,b,off,hx,ha,hc⟩:=h.at i hi;exact ⟨x,b,off,hx,ha,hc 0 _ rfl,hc 1 _ rfl,hc 2 _ rfl,hc 3 _ rfl⟩

theorem zg6 {w:World} {ao:Option Addr} {len cap:Nat} {l:List SY} (h:GRow sayF w ao len cap l) (i:Nat) (hi:i < len):∃(x:SY) (b off:Nat),l[i]? = some x∧ao=some ⟨b,off,none⟩∧w.cell? ⟨b,off+i*7,none⟩=some (.int .i64 x.l)∧w.cell? ⟨b,off+i*7+1,none⟩=some (.bool x.back)∧w.cell? ⟨b,off+i*7+2,none⟩=some (.int .i64 x.v.r)∧w.cell? ⟨b,off+i*7+3,none⟩=some (.int .i64 x.v.c)∧w.cell? ⟨b,off+i*7+4,none⟩=some (.int .i64 x.v.h)∧w.cell? ⟨b,off+i*7+5,none⟩=some (.int .i64 x.v.b)∧w.cell? ⟨b,off+i*7+6,none⟩=some (.int .i64 x.v.p):=by
 obtain ⟨x,b,off,hx,ha,hc⟩:=h.at i hi;exact ⟨x,b,off,hx,ha,hc 0 _ rfl,hc 1 _ rfl,hc 2 _ rfl,hc 3 _ rfl,hc 4 _ rfl,hc 5 _ rfl,hc 6 _ rfl⟩

theorem zc3:(Tryz.prog.info? 44).map (fun i=>(i.zero,i.size,i.bytes))=some (some (.agg #[.int .i64 0,.int .i64 0,.int .i64 0,.int .i64 0]),linkF.k,32):=by kernel_rfl

theorem zd1:(Tryz.prog.info? 74).map (fun i=>(i.zero,i.size,i.bytes))=some (some (.agg #[.int .i64 0,.bool false,.int .i64 0,.int .i64 0,.int .i64 0,.int .i64 0,.int .i64 0]),sayF.k,56):=by kernel_rfl

structure NV where
 ba:Option Addr
 bn:Nat
 bc:Nat
 bs:List BV
 la:Option Addr
 ln:Nat
 lc:Nat
 ls:List LK
 sa:Option Addr
 sn:Nat
 sc:Nat
 ss:List SY

structure zas (w:World) (N:NV):Prop where
 b:GRow brF w N.ba N.bn N.bc N.bs
 item:∀x∈N.bs,x.Reads w
 l:GRow linkF w N.la N.ln N.lc N.ls
 s:GRow sayF w N.sa N.sn N.sc N.ss

theorem zas.below {w w':World} {N:NV} (h:zas w N) (hb:Below w.heap.size w w'):zas w' N :=
 ⟨h.b.below hb,fun x hx=>(h.item x hx).below hb,h.l.below hb,h.s.below hb⟩

def NV.brs (N:NV):List BR:=N.bs.map BV.B

theorem zhR (R C H B P R' C' H' B' P':Int) (w:World):(binOp .eql 72 (.agg #[.int .i64 R,.int .i64 C,.int .i64 H,.int .i64 B,.int .i64 P]) (.agg #[.int .i64 R',.int .i64 C',.int .i64 H',.int .i64 B',.int .i64 P'])).run Tryz.prog w=.ok (.bool ((R == R') && ((C == C') && ((H == H') && ((B == B') && (P == P')))))) w:=by
 have u3:=Tryz.underlying3;have a3:=Tryz.isAgg3;have z3:=Tryz.sizeOf3;have hS:Tryz.prog.underlying 72=some (.struct (Tryz.prog.fieldsOf 72)):=by kernel_rfl
 have hp:Tryz.prog.stoodInHeld 72=false:=by kernel_rfl
 rw [run_eql_struct,show (10000:Nat)=9999+1 from rfl,run_equalIn_agg w 9999 72 _ _ hS hp];simp only [Program.fieldsOf,Tryz.underlying72];go_simp;by_cases h1:R=R' <;> by_cases h2:C=C' <;> by_cases h3:H=H' <;> by_cases h4:B=B' <;> by_cases h5:P=P' <;> simp [h1,h2,h3,h4,h5]

theorem zcJ {w:World} {g:Nat} {T:TypeId} {c0 c1 c2 c3 c4 c5 c6 c7:Value} (h:w.heap[g]? = some (.cells #[c0,c1,c2,c3,c4,c5,c6,c7] T)) :
  w.cell? ⟨g,0,none⟩=some c0∧w.cell? ⟨g,1,none⟩=some c1∧w.cell? ⟨g,2,none⟩=some c2∧w.cell? ⟨g,3,none⟩=some c3∧w.cell? ⟨g,4,none⟩=some c4∧w.cell? ⟨g,5,none⟩=some c5∧w.cell? ⟨g,6,none⟩=some c6∧w.cell? ⟨g,7,none⟩=some c7:=by
 simp [World.cell?,h]

theorem zeb (x:PT) (w:World) :
  Calls Tryz.prog 97 #[.agg #[.bool x.up,.int .i64 x.k,.bool x.has,.int .i64 x.v.r,.int .i64 x.v.c,.int .i64 x.v.h,.int .i64 x.v.b,.int .i64 x.v.p]] w fun e w'=>e=.returned (.bool (ptOk x))∧Below w.heap.size w w':=by
 have he:∀W,(binOp .eql 72 (.agg #[.int .i64 x.v.r,.int .i64 x.v.c,.int .i64 x.v.h,.int .i64 x.v.b,.int .i64 x.v.p]) (.agg #[.int .i64 0,.int .i64 0,.int .i64 0,.int .i64 0,.int .i64 0])).run Tryz.prog W=.ok (.bool (zee x.v)) W:=fun W=>by rw [zhR]; rfl
 have hgd:Tryz.prog.eqGuardType Tryz.prog.depth 72=false:=by kernel_rfl
 obtain ⟨up,k,has,⟨r,c,h,b,p⟩⟩:=x
 simp only at he ⊢
 generalize hw1:w.alloc (.cells #[.bool up,.int .i64 k,.bool has,.int .i64 r,.int .i64 c,.int .i64 h,.int .i64 b,.int .i64 p] 79)=w1;have q0:=zb hw1;obtain ⟨c0,c1,c2,c3,c4,c5,c6,c7⟩:=zcJ (by rw [← hw1]; exact zt w _:w1.heap[w.heap.size]? = _);cases t1:(decide (1≤k) && decide (k≤1000))
 ·have T1:=hide t1;rw [show ptOk ⟨up,k,has,⟨r,c,h,b,p⟩⟩=false by unfold ptOk; rw [t1]; rfl];clear t1;go_enter Tryz.func97,Tryz.ntmps97;(go_wp2_with fail);refine (zh k 1 1000 _).mono ?_;rintro e w2 ⟨rfl,rfl⟩;rw [T1.out];go_wp2;go_ret;exact ⟨rfl,q0⟩
 cases has
 ·rw [show ptOk ⟨up,k,false,⟨r,c,h,b,p⟩⟩=zee ⟨r,c,h,b,p⟩ by unfold ptOk; rw [t1]; cases up <;> rfl];have T1:=hide t1;generalize zee ⟨r,c,h,b,p⟩=Q at *;clear t1;cases up <;>
  ·go_enter Tryz.func97,Tryz.ntmps97;(go_wp2_with fail);refine (zh k 1 1000 _).mono ?_;rintro e w2 ⟨rfl,rfl⟩;rw [T1.out];go_wp2;go_ret;exact ⟨rfl,q0⟩
 cases up
 ·rw [show ptOk ⟨false,k,true,⟨r,c,h,b,p⟩⟩=false by unfold ptOk; rw [t1]; rfl];have T1:=hide t1;clear t1;go_enter Tryz.func97,Tryz.ntmps97;(go_wp2_with fail);refine (zh k 1 1000 _).mono ?_;rintro e w2 ⟨rfl,rfl⟩;rw [T1.out];go_wp2;go_ret;exact ⟨rfl,q0⟩
 ·rw [show ptOk ⟨true,k,true,⟨r,c,h,b,p⟩⟩=okVc r c h b p by unfold ptOk; rw [t1]; rfl];have T1:=hide t1;clear t1;go_enter Tryz.func97,Tryz.ntmps97;(go_wp2_with fail);refine (zh k 1 1000 _).mono ?_;rintro e w2 ⟨rfl,rfl⟩;rw [T1.out];(go_wp2_with fail);refine (zau r c h b p _).mono ?_;rintro e w3 ⟨rfl,hb3⟩;have HB:=hide (zc q0 hb3);clear hb3;go_wp2;go_ret;exact ⟨rfl,HB.out⟩

theorem zar (e:FE) (w:World) :
  Calls Tryz.prog 132 #[.agg #[.int .i64 e.t,.int .i64 e.m,.int .i64 e.p,.int .i64 e.a,.bool e.s]] w fun r w'=>r=.returned (.bool (entOk e))∧Below w.heap.size w w':=by
 generalize hP:entOk e=Q;unfold entOk at hP;cases t1:(decide (1≤e.t) && decide (e.t≤99))
 ·have h:Q=false:=by rw [← hP,t1]; rfl
  subst h;have T1:=hide t1;clear hP t1;go_enter Tryz.func132,Tryz.ntmps132;(go_wp2_with fail);refine (zh e.t 1 99 _).mono ?_;rintro r w1 ⟨rfl,rfl⟩;rw [T1.out];go_wp2;go_ret;exact ⟨rfl,zg _ _⟩
 cases t2:(decide (1≤e.m) && decide (e.m≤9999))
 ·have h:Q=false:=by rw [← hP,t1,t2]; rfl
  subst h;have T1:=hide t1;have T2:=hide t2;clear hP t1 t2;go_enter Tryz.func132,Tryz.ntmps132;(go_wp2_with fail);refine (zh e.t 1 99 _).mono ?_;rintro r w1 ⟨rfl,rfl⟩;rw [T1.out];(go_wp2_with fail);refine (zh e.m 1 9999 _).mono ?_;rintro r w2 ⟨rfl,rfl⟩;rw [T2.out];go_wp2;go_ret;exact ⟨rfl,zg _ _⟩
 cases t3:(decide (0≤e.p) && decide (e.p≤7))
 ·have h:Q=false:=by rw [← hP,t1,t2,t3]; rfl
  subst h;have T1:=hide t1;have T2:=hide t2;have T3:=hide t3;clear hP t1 t2 t3;go_enter Tryz.func132,Tryz.ntmps132;(go_wp2_with fail);refine (zh e.t 1 99 _).mono ?_;rintro r w1 ⟨rfl,rfl⟩;rw [T1.out];(go_wp2_with fail);refine (zh e.m 1 9999 _).mono ?_;rintro r w2 ⟨rfl,rfl⟩;rw [T2.out];(go_wp2_with fail);refine (zh e.p 0 7 _).mono ?_;rintro r w3 ⟨rfl,rfl⟩;rw [T3.out];go_wp2;go_ret;exact ⟨rfl,zg _ _⟩
 cases t4:(decide (0≤e.a) && decide (e.a≤4))
 ·have h:Q=false:=by rw [← hP,t1,t2,t3,t4]; rfl
  subst h;have T1:=hide t1;have T2:=hide t2;have T3:=hide t3;have T4:=hide t4;clear hP t1 t2 t3 t4;go_enter Tryz.func132,Tryz.ntmps132;(go_wp2_with fail);refine (zh e.t 1 99 _).mono ?_;rintro r w1 ⟨rfl,rfl⟩;rw [T1.out];(go_wp2_with fail);refine (zh e.m 1 9999 _).mono ?_;rintro r w2 ⟨rfl,rfl⟩;rw [T2.out];(go_wp2_with fail);refine (zh e.p 0 7 _).mono ?_;rintro r w3 ⟨rfl,rfl⟩;rw [T3.out];(go_wp2_with fail);refine (zh e.a 0 4 _).mono ?_;rintro r w4 ⟨rfl,rfl⟩;rw [T4.out];go_wp2;go_ret;exact ⟨rfl,zg _ _⟩
 rw [t1,t2,t3,t4,Bool.true_and,Bool.true_and,Bool.true_and,Bool.true_and] at hP;have T1:=hide t1;have T2:=hide t2;have T3:=hide t3;have T4:=hide t4;clear t1 t2 t3 t4;cases hs:e.s
 ·rw [hs] at hP;have h:Q=true:=by rw [← hP]; rfl
  subst h;clear hP;go_enter Tryz.func132,Tryz.ntmps132;(go_wp2_with fail);refine (zh e.t 1 99 _).mono ?_;rintro r w1 ⟨rfl,rfl⟩;rw [T1.out];(go_wp2_with fail);refine (zh e.m 1 9999 _).mono ?_;rintro r w2 ⟨rfl,rfl⟩;rw [T2.out];(go_wp2_with fail);refine (zh e.p 0 7 _).mono ?_;rintro r w3 ⟨rfl,rfl⟩;rw [T3.out];(go_wp2_with fail);refine (zh e.a 0 4 _).mono ?_;rintro r w4 ⟨rfl,rfl⟩;rw [T4.out];go_wp2;go_ret;exact ⟨rfl,zg _ _⟩
 ·rw [hs,Bool.not_true,Bool.false_or] at hP;have HP:=hide hP;clear hP;go_enter Tryz.func132,Tryz.ntmps132;(go_wp2_with fail);refine (zh e.t 1 99 _).mono ?_;rintro r w1 ⟨rfl,rfl⟩;rw [T1.out];(go_wp2_with fail);refine (zh e.m 1 9999 _).mono ?_;rintro r w2 ⟨rfl,rfl⟩;rw [T2.out];(go_wp2_with fail);refine (zh e.p 0 7 _).mono ?_;rintro r w3 ⟨rfl,rfl⟩;rw [T3.out];(go_wp2_with fail);refine (zh e.a 0 4 _).mono ?_;rintro r w4 ⟨rfl,rfl⟩;rw [T4.out];go_wp2;go_ret;exact ⟨zH HP.out,zg _ _⟩

theorem zbP (e:FE) (t m:Int) (w:World) :
  Calls Tryz.prog 133 #[.agg #[.int .i64 e.t,.int .i64 e.m,.int .i64 e.p,.int .i64 e.a,.bool e.s],.int .i64 t,.int .i64 m] w fun r w'=>r=.returned (.bool (ahead e t m))∧Below w.heap.size w w':=by
 unfold ahead;cases t1:(e.t != t)
 ·rw [if_neg Bool.false_ne_true];go_enter Tryz.func133,Tryz.ntmps133;go_wp2;go_ret;exact ⟨rfl,zg _ _⟩
 ·rw [if_pos rfl];go_enter Tryz.func133,Tryz.ntmps133;go_wp2;go_ret;exact ⟨rfl,zg _ _⟩

def okTo (l:List FE) (k:Nat):Prop:=∀i x,i < k→l[i]? = some x→entOk x=true∧∀y,0 < i→l[i - 1]? = some y→ahead y x.t x.m=true

theorem zdZ:∀(l:List FE),rises l=true↔okTo l l.length
 | []=>by simp [rises,okTo]
 | [e]=>by
  simp only [rises,okTo,List.length_singleton]
  constructor
  ·intro h i x hi hx;have h0:i=0:=by omega
   subst h0
   simp at hx
   subst hx;exact ⟨h,fun y hy=>by omega⟩
  ·intro h;exact (h 0 e (by omega) rfl).1
 | e::f::r=>by
  have ih:=zdZ (f::r);unfold rises;simp only [Bool.and_eq_true,ih]
  constructor
  ·rintro ⟨h1,h2,h3⟩ i x hi hx
   match i,hx with
   | 0,hx =>
    simp at hx
    subst hx;exact ⟨h1,fun y hy=>by omega⟩
   | 1,hx =>
    simp at hx
    subst hx;refine ⟨(h3 0 f (by simp) rfl).1,fun y _ hy => ?_⟩
    simp at hy
    subst hy;exact h2
   | i+2,hx =>
    obtain ⟨a1,a2⟩:=h3 (i+1) x (by simp at hi ⊢; omega) (by simpa using hx);exact ⟨a1,fun y _ hy=>a2 y (by omega) (by simpa using hy)⟩
  ·intro h;refine ⟨(h 0 e (by simp) rfl).1,(h 1 f (by simp) rfl).2 e (by omega) rfl,fun i x hi hx => ?_⟩;obtain ⟨a1,a2⟩:=h (i+1) x (by simp at hi ⊢; omega) (by simpa using hx);refine ⟨a1,fun y hy hz=>a2 y (by omega) ?_⟩;obtain ⟨j,rfl⟩:∃j,i=j+1:=⟨i - 1,by omega⟩
   simpa using hz

theorem zdI {l:List FE} {k:Nat} {x:FE} (h:okTo l k) (hx:l[k]? = some x) (h1:entOk x=true) (h2:∀y,0 < k→l[k - 1]? = some y→ahead y x.t x.m=true):okTo l (k+1):=by
 intro i z hi hz;by_cases e:i=k
 ·subst e;rw [hx] at hz;cases hz;exact ⟨h1,h2⟩
 ·exact h i z (by omega) hz

theorem zdB {l:List FE} (h:¬okTo l l.length):fdbOk l=false:=by
 unfold fdbOk
 have:rises l=false:=by
  cases hr:rises l
  ·rfl
  ·exact absurd ((zdZ l).1 hr) h
 rw [this]
 rfl

theorem zgw {l:List FE} (h:okTo l l.length):fdbOk l=decide ((l.length:Int)≤12):=by
 unfold fdbOk;rw [(zdZ l).2 h]
 rfl

theorem zbp (a:Option Addr) (n c:Nat) (l:List VR) (o:Option Addr) (p q:Nat) (id:Int) (w:World) (h:GRow vrowF w a n c l) :
  Calls Tryz.prog 134 #[.agg #[.slice a n c,.slice o p q],.int .i64 id] w fun r w'=>r=.returned (.int .i64 (rowAt l id))∧Below w.heap.size w w':=by
 have hle:=h.le;have htop:=h.top;unfold maxLen at htop;have hsz:=h.size;have hW:Below w.heap.size w (w.alloc (Obj.cells #[Value.slice a n c,Value.slice o p q] 59)):=zg _ _;have h:=h.below hW;go_enter Tryz.func134,Tryz.ntmps134;go_wp2
 go_loop [5] (fun i=>∃k:Nat,k≤n∧i=.int .i64 k∧∀(j:Nat) (y:VR),j < k→l[j]? = some y→(y.i == id)=false) (fun i=>n - (intOf i).toNat)
 case atStart=>exact ⟨0,Nat.zero_le _,rfl,fun j y hj=>by omega⟩
 case round =>
  obtain ⟨k,hk,rfl,hno⟩:=hrel;by_cases hlt:k < n
  ·obtain ⟨x,b,off,hx,rfl,c0,-,-⟩:=zb2 h k hlt;cases t1:(x.i == id)
   ·have HO:=hide (zip hno hx t1);clear hno;go_wp2
    go_round
    case rel=>exact ⟨k+1,by omega,by go_num,HO.out⟩
    case measure=>simp [intOf]; omega
   ·have HF:=hide (zeV hno hx t1);clear hno;go_wp2;go_ret;exact ⟨(by rw [HF.out]; rfl),hW⟩
  ·have hkn:k=n:=by omega
   have HF:=hide (zfF (l:=l) (id:=id) (fun i y hy=>hno i y (by have:=(List.getElem?_eq_some_iff.1 hy).1; omega) hy));clear hno;subst hkn;go_wp2;go_ret;exact ⟨(by rw [HF.out]; rfl),hW⟩

theorem zk6:(Tryz.prog.info? 79).map (fun i=>(i.zero,i.size,i.bytes))=some (some (.agg #[.bool false,.int .i64 0,.bool false,.int .i64 0,.int .i64 0,.int .i64 0,.int .i64 0,.int .i64 0]),ptF.k,64):=by kernel_rfl

theorem zci (w:World) {ops:Array Oper} {rest:List Oper} {o:Oper} {a:Act} {Q:Exit→Act→World→Prop} (hgd:o.guard=none)
  (s x:Operand) (ho:o.op=Op.call { callee:=Callee.builtin Builtin.append,args:=#[s,x],argTypes:=#[55,55] }) (base:Nat)
  (v:Value) (n:Nat) (xs:List PT) (hs:a.eval s=v) (hown:w.ownsRow base 79 8 v n (ptF.all xs)) (ao:Option Addr) (m c:Nat) (zs:List PT)
  (hx:a.eval x=.slice ao m c) (hrow:GRow ptF w ao m c zs) (hsm:n+m≤137438953472) (hbase:base≤w.heap.size)
  (h:∀ao' cap' w',w'.ownsRow base 79 8 (.slice ao' (n+m) cap') (n+m) (ptF.all (xs++zs))→GRow ptF w' ao' (n+m) cap' (xs++zs)→w.grownBy w' v.ownBlock→Below base w w'→wpList Tryz.prog ops Q rest (a.put o.dst (.slice ao' (n+m) cap')) w') :
  wpList Tryz.prog ops Q (o::rest) a w :=
 zE (F:=ptF) w hgd s x 55 79 ho base Tryz.underlying55 zk6 rfl (by decide) v n xs hs hown ao m c zs hx hrow hsm hbase h

theorem zi0 {w:World} {g:Nat} {T:TypeId} {c0 c1 c2 c3 c4 c5 c6 c7:Value} (h:w.heap[g]? = some (.cells #[c0,c1,c2,c3,c4,c5,c6,c7] T)) (u:Value):(w.setCell ⟨g,2,none⟩ u).heap[g]? = some (.cells #[c0,c1,u,c3,c4,c5,c6,c7] T):=zu (j:=2) h u

theorem zjZ {w:World} {g:Nat} {T:TypeId} {c0 c1 c2 c3 c4 c5 c6 c7:Value} (h:w.heap[g]? = some (.cells #[c0,c1,c2,c3,c4,c5,c6,c7] T)) (u3 u4 u5 u6 u7:Value):(((((w.setCell ⟨g,3,none⟩ u3).setCell ⟨g,4,none⟩ u4).setCell ⟨g,5,none⟩ u5).setCell ⟨g,6,none⟩ u6).setCell ⟨g,7,none⟩ u7).heap[g]? = some (.cells #[c0,c1,c2,u3,u4,u5,u6,u7] T) :=
 zu (j:=7) (zu (j:=6) (zu (j:=5) (zu (j:=4) (zu (j:=3) h u3) u4) u5) u6) u7

theorem zi {w:World} {g:Nat} {T:TypeId} {cs:Array Value} (h:w.heap[g]? = some (.cells cs T)) (j:Nat):w.frozen? ⟨g,j,none⟩=false:=by
 simp [World.frozen?,h]

theorem zkN {w:World} {base k:Nat} {e:TypeId} {v:Value} {n:Nat} {xs:List Value} (h:w.ownsRow base e k v n xs):∀b,v.ownBlock=some b→b < w.heap.size:=fun b hb=>(h.lt b hb).2

end Go.Proofs.YtkcoehmpnkdinaaGreat
