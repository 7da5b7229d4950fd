/-
  Packed: VecSpec PtMem FdbMath FentMem BrMem BrLie NetMem VecEql PtOkS FdbSpec PtApp NetFlat VlanBits PtOpen BrOpen NetOpen PtHelp VrowHelp.
-/
import Derived.Test.YtkoekkjfcaiagaaGreatPSK01
import Derived.Deep.RegionHeld3
import Derived.Deep.CutRange
import Derived.WalkKit
import Derived.ProofKit
import Derived.OpenShut
import Derived.ShutString
import Derived.ChangeOld
import Derived.Below
import Derived.Lib.SmallJoins
namespace Go.Proofs.YtkoekkjfcaiagaaGreat
set_option maxRecDepth 100000
set_option maxHeartbeats 16000000
open Go.RowKit

theorem ziz (R C H B P:Int):okVc R C H B P=((decide (1≤R) && decide (R≤99)) && ((decide (0≤C) && decide (C≤100000)) && ((decide (0≤H) && decide (H≤10)) && ((decide (1≤B) && decide (B≤99)) && (decide (0≤P) && decide (P≤7)))))):=by
 unfold okVc;have e1:∀a x b:Int,decide (a≤x∧x≤b)=(decide (a≤x) && decide (x≤b)):=fun a x b=>by rw [Bool.eq_iff_iff]; simp
 rw [e1,e1,e1,e1,e1]

theorem zay (R C H B P:Int) (w:World) :
  Calls Tryz.prog 60 #[.agg #[.int .i64 R,.int .i64 C,.int .i64 H,.int .i64 B,.int .i64 P]] w fun e w'=>e=.returned (.bool (okVc R C H B P))∧Below w.heap.size w w':=by
 generalize hP:okVc R C H B P=Q;rw [ziz] at hP;cases t1:(decide (1≤R) && decide (R≤99))
 ·have e:Q=false:=by rw [← hP,t1]; rfl
  subst e;have T1:=hide t1;clear hP t1;go_enter Tryz.func60,Tryz.ntmps60;(go_wp2_with fail);refine (zg R 1 99 _).mono ?_;rintro e w1 ⟨rfl,rfl⟩;rw [T1.out];go_wp2;go_ret;exact ⟨rfl,zm _ _⟩
 cases t2:(decide (0≤C) && decide (C≤100000))
 ·have e:Q=false:=by rw [← hP,t1,t2]; rfl
  subst e;have T1:=hide t1;have T2:=hide t2;clear hP t1 t2;go_enter Tryz.func60,Tryz.ntmps60;(go_wp2_with fail);refine (zg R 1 99 _).mono ?_;rintro e w1 ⟨rfl,rfl⟩;rw [T1.out];(go_wp2_with fail);refine (zg C 0 100000 _).mono ?_;rintro e w2 ⟨rfl,rfl⟩;rw [T2.out];go_wp2;go_ret;exact ⟨rfl,zm _ _⟩
 cases t3:(decide (0≤H) && decide (H≤10))
 ·have e:Q=false:=by rw [← hP,t1,t2,t3]; rfl
  subst e;have T1:=hide t1;have T2:=hide t2;have T3:=hide t3;clear hP t1 t2 t3;go_enter Tryz.func60,Tryz.ntmps60;(go_wp2_with fail);refine (zg R 1 99 _).mono ?_;rintro e w1 ⟨rfl,rfl⟩;rw [T1.out];(go_wp2_with fail);refine (zg C 0 100000 _).mono ?_;rintro e w2 ⟨rfl,rfl⟩;rw [T2.out];(go_wp2_with fail);refine (zg H 0 10 _).mono ?_;rintro e w3 ⟨rfl,rfl⟩;rw [T3.out];go_wp2;go_ret;exact ⟨rfl,zm _ _⟩
 cases t4:(decide (1≤B) && decide (B≤99))
 ·have e:Q=false:=by rw [← hP,t1,t2,t3,t4]; rfl
  subst e;have T1:=hide t1;have T2:=hide t2;have T3:=hide t3;have T4:=hide t4;clear hP t1 t2 t3 t4;go_enter Tryz.func60,Tryz.ntmps60;(go_wp2_with fail);refine (zg R 1 99 _).mono ?_;rintro e w1 ⟨rfl,rfl⟩;rw [T1.out];(go_wp2_with fail);refine (zg C 0 100000 _).mono ?_;rintro e w2 ⟨rfl,rfl⟩;rw [T2.out];(go_wp2_with fail);refine (zg H 0 10 _).mono ?_;rintro e w3 ⟨rfl,rfl⟩;rw [T3.out];(go_wp2_with fail);refine (zg B 1 99 _).mono ?_;rintro e w4 ⟨rfl,rfl⟩;rw [T4.out];go_wp2;go_ret;exact ⟨rfl,zm _ _⟩
 cases t5:(decide (0≤P) && decide (P≤7))
 ·have e:Q=false:=by rw [← hP,t1,t2,t3,t4,t5]; rfl
  subst e;have T1:=hide t1;have T2:=hide t2;have T3:=hide t3;have T4:=hide t4;have T5:=hide t5;clear hP t1 t2 t3 t4 t5;go_enter Tryz.func60,Tryz.ntmps60;(go_wp2_with fail);refine (zg R 1 99 _).mono ?_;rintro e w1 ⟨rfl,rfl⟩;rw [T1.out];(go_wp2_with fail);refine (zg C 0 100000 _).mono ?_;rintro e w2 ⟨rfl,rfl⟩;rw [T2.out];(go_wp2_with fail);refine (zg H 0 10 _).mono ?_;rintro e w3 ⟨rfl,rfl⟩;rw [T3.out];(go_wp2_with fail);refine (zg B 1 99 _).mono ?_;rintro e w4 ⟨rfl,rfl⟩;rw [T4.out];(go_wp2_with fail);refine (zg P 0 7 _).mono ?_;rintro e w5 ⟨rfl,rfl⟩;rw [T5.out];go_wp2;go_ret;exact ⟨rfl,zm _ _⟩
 have e:Q=true:=by rw [← hP,t1,t2,t3,t4,t5]; rfl
 subst e;have T1:=hide t1;have T2:=hide t2;have T3:=hide t3;have T4:=hide t4;have T5:=hide t5;clear hP t1 t2 t3 t4 t5;go_enter Tryz.func60,Tryz.ntmps60;go_wp2_with fail
 refine (zg R 1 99 _).mono ?_;rintro e w1 ⟨rfl,rfl⟩;rw [T1.out];go_wp2_with fail
 refine (zg C 0 100000 _).mono ?_;rintro e w2 ⟨rfl,rfl⟩;rw [T2.out];go_wp2_with fail
 refine (zg H 0 10 _).mono ?_;rintro e w3 ⟨rfl,rfl⟩;rw [T3.out];go_wp2_with fail
 refine (zg B 1 99 _).mono ?_;rintro e w4 ⟨rfl,rfl⟩;rw [T4.out];go_wp2_with fail
 refine (zg P 0 7 _).mono ?_;rintro e w5 ⟨rfl,rfl⟩;rw [T5.out];go_wp2;go_ret;exact ⟨rfl,zm _ _⟩

def zaT (R C B P R' C' B' P':Int):Bool :=
 if (R != R')=true then decide (R < R') else if (C != C')=true then decide (C < C') else if (B != B')=true then decide (B < B') else decide (P < P')

theorem zbp (R C H B P R' C' H' B' P':Int) (w:World) :
  Calls Tryz.prog 195 #[.agg #[.int .i64 R,.int .i64 C,.int .i64 H,.int .i64 B,.int .i64 P],.agg #[.int .i64 R',.int .i64 C',.int .i64 H',.int .i64 B',.int .i64 P']] w fun e w'=>e=.returned (.bool (zaT R C B P R' C' B' P'))∧Below w.heap.size w w':=by
 cases t1:(R != R')
 ·cases t2:(C != C')
  ·cases t3:(B != B')
   ·have e:zaT R C B P R' C' B' P'=decide (P < P'):=by unfold zaT; rw [t1,t2,t3]; rfl
    rw [e];clear e;go_enter Tryz.func195,Tryz.ntmps195;go_wp2;go_ret;exact ⟨rfl,zP _ _ _⟩
   ·have e:zaT R C B P R' C' B' P'=decide (B < B'):=by unfold zaT; rw [t1,t2,t3]; rfl
    rw [e];clear e;go_enter Tryz.func195,Tryz.ntmps195;go_wp2;go_ret;exact ⟨rfl,zP _ _ _⟩
  ·have e:zaT R C B P R' C' B' P'=decide (C < C'):=by unfold zaT; rw [t1,t2]; rfl
   rw [e];clear e;go_enter Tryz.func195,Tryz.ntmps195;go_wp2;go_ret;exact ⟨rfl,zP _ _ _⟩
 ·have e:zaT R C B P R' C' B' P'=decide (R < R'):=by unfold zaT; rw [t1]; rfl
  rw [e];clear e;go_enter Tryz.func195,Tryz.ntmps195;go_wp2;go_ret;exact ⟨rfl,zP _ _ _⟩

def zbi (R C H B P k:Int):Bool:=okVc R C H B P && ((decide (1≤k) && decide (k≤1000)) && okVc R (C+k) (H+1) B P)

theorem zcB (R C H B P k:Int) (w:World) :
  Calls Tryz.prog 194 #[.agg #[.int .i64 R,.int .i64 C,.int .i64 H,.int .i64 B,.int .i64 P],.int .i64 k] w fun e w'=>e=.returned (.tuple #[if zbi R C H B P k=true then .agg #[.int .i64 R,.int .i64 (C+k),.int .i64 (H+1),.int .i64 B,.int .i64 P] else .agg #[.int .i64 R,.int .i64 C,.int .i64 H,.int .i64 B,.int .i64 P],.bool (zbi R C H B P k)])∧Below w.heap.size w w':=by
 have q2:=zP w (.cells #[.int .i64 R,.int .i64 C,.int .i64 H,.int .i64 B,.int .i64 P] 65) (.cells #[.int .i64 0,.int .i64 0,.int .i64 0,.int .i64 0,.int .i64 0] 65);cases t1:okVc R C H B P
 ·have e:zbi R C H B P k=false:=by unfold zbi; rw [t1]; rfl
  rw [e,if_neg (by simp)];have T1:=hide t1;clear e t1;go_enter Tryz.func194,Tryz.ntmps194;(go_wp2_with fail);refine (zay R C H B P _).mono ?_;rintro e w1 ⟨rfl,hb1⟩;rw [T1.out];obtain ⟨k0,k1⟩:=zcg hb1;obtain ⟨⟨x0,x1,x2,x3,x4⟩,f0,f1,f2,f3,f4⟩:=zC k0;obtain ⟨⟨y0,y1,y2,y3,y4⟩,g0,g1,g2,g3,g4⟩:=zC k1;have HB:=hide (zc q2 hb1);clear hb1 k0 k1;go_wp2;exact bodyPost_ret (v:=.tuple #[.agg #[.int .i64 R,.int .i64 C,.int .i64 H,.int .i64 B,.int .i64 P],.bool false]) (by simp [results,Tryz.results194,go_sem, *]) rfl ⟨rfl,zag HB.out (by omega) _ _ _ _ _⟩
 cases t2:(decide (1≤k) && decide (k≤1000))
 ·have e:zbi R C H B P k=false:=by unfold zbi; rw [t1,t2]; rfl
  rw [e,if_neg (by simp)];have T1:=hide t1;have T2:=hide t2;clear e t1 t2;go_enter Tryz.func194,Tryz.ntmps194;(go_wp2_with fail);refine (zay R C H B P _).mono ?_;rintro e w1 ⟨rfl,hb1⟩;rw [T1.out];obtain ⟨k0,k1⟩:=zcg hb1;obtain ⟨⟨x0,x1,x2,x3,x4⟩,f0,f1,f2,f3,f4⟩:=zC k0;obtain ⟨⟨y0,y1,y2,y3,y4⟩,g0,g1,g2,g3,g4⟩:=zC k1;have HB:=hide (zc q2 hb1);clear hb1 k0 k1;(go_wp2_with fail);refine (zg k 1 1000 _).mono ?_;rintro e w2 ⟨rfl,rfl⟩;rw [T2.out];go_wp2;exact bodyPost_ret (v:=.tuple #[.agg #[.int .i64 R,.int .i64 C,.int .i64 H,.int .i64 B,.int .i64 P],.bool false]) (by simp [results,Tryz.results194,go_sem, *]) rfl ⟨rfl,zag HB.out (by omega) _ _ _ _ _⟩
 obtain ⟨-,o2,o3,-,-⟩:=ze2 t1;have hk:1≤k∧k≤1000:=by simpa using t2
 have es:zbi R C H B P k=okVc R (C+k) (H+1) B P:=by unfold zbi; rw [t1,t2]; rfl
 rw [es];clear es;cases t3:okVc R (C+k) (H+1) B P
 ·rw [if_neg (by simp)];have T1:=hide t1;have T2:=hide t2;have T3:=hide t3;clear t1 t2 t3;go_enter Tryz.func194,Tryz.ntmps194;(go_wp2_with fail);refine (zay R C H B P _).mono ?_;rintro e w1 ⟨rfl,hb1⟩;rw [T1.out];obtain ⟨k0,k1⟩:=zcg hb1;obtain ⟨⟨x0,x1,x2,x3,x4⟩,f0,f1,f2,f3,f4⟩:=zC k0;have HB:=hide (zc q2 hb1);have K0:=hide k0;have K1:=hide k1;clear hb1 k0 k1;(go_wp2_with fail);refine (zg k 1 1000 _).mono ?_;rintro e w2 ⟨rfl,rfl⟩;rw [T2.out];have lt0:=(Array.getElem?_eq_some_iff.1 K0.out).1;have ne1:¬w.heap.size=w2.heap.size:=by omega
  have ne2:¬w2.heap.size=w.heap.size:=by omega
  (go_wp2_with fail);refine (zay R (C+k) (H+1) B P _).mono ?_;rintro e w3 ⟨rfl,hb3⟩;rw [T3.out];clear x0 x1 x2 x3 x4 f0 f1 f2 f3 f4;have b3:=zc (zm w2 _) hb3;obtain ⟨⟨x0,x1,x2,x3,x4⟩,f0,f1,f2,f3,f4⟩:=zC (za K0.out b3);obtain ⟨⟨y0,y1,y2,y3,y4⟩,g0,g1,g2,g3,g4⟩:=zC (za K1.out b3);have HB3:=hide (zc HB.out b3);clear hb3 b3;go_wp2;exact bodyPost_ret (v:=.tuple #[.agg #[.int .i64 R,.int .i64 C,.int .i64 H,.int .i64 B,.int .i64 P],.bool false]) (by simp [results,Tryz.results194,go_sem, *]) rfl ⟨rfl,zag HB3.out (by omega) _ _ _ _ _⟩
 ·rw [if_pos rfl];have T1:=hide t1;have T2:=hide t2;have T3:=hide t3;clear t1 t2 t3;go_enter Tryz.func194,Tryz.ntmps194;(go_wp2_with fail);refine (zay R C H B P _).mono ?_;rintro e w1 ⟨rfl,hb1⟩;rw [T1.out];obtain ⟨k0,k1⟩:=zcg hb1;obtain ⟨⟨x0,x1,x2,x3,x4⟩,f0,f1,f2,f3,f4⟩:=zC k0;have HB:=hide (zc q2 hb1);have K0:=hide k0;have K1:=hide k1;clear hb1 k0 k1;(go_wp2_with fail);refine (zg k 1 1000 _).mono ?_;rintro e w2 ⟨rfl,rfl⟩;rw [T2.out];have lt0:=(Array.getElem?_eq_some_iff.1 K0.out).1;have ne1:¬w.heap.size=w2.heap.size:=by omega
  have ne2:¬w2.heap.size=w.heap.size:=by omega
  (go_wp2_with fail);refine (zay R (C+k) (H+1) B P _).mono ?_;rintro e w3 ⟨rfl,hb3⟩;rw [T3.out];clear x0 x1 x2 x3 x4 f0 f1 f2 f3 f4;have b3:=zc (zm w2 _) hb3;obtain ⟨⟨x0,x1,x2,x3,x4⟩,f0,f1,f2,f3,f4⟩:=zC (za (zw w2 _) hb3);obtain ⟨⟨y0,y1,y2,y3,y4⟩,g0,g1,g2,g3,g4⟩:=zC (za K1.out b3);have HB3:=hide (zc HB.out b3);clear hb3 b3;go_wp2;exact bodyPost_ret (v:=.tuple #[.agg #[.int .i64 R,.int .i64 (C+k),.int .i64 (H+1),.int .i64 B,.int .i64 P],.bool true]) (by simp [results,Tryz.results194,go_sem, *]) rfl ⟨rfl,zag HB3.out (by omega) _ _ _ _ _⟩

structure PT where
 up:Bool
 k:Int
 has:Bool
 v:VD

def ptF:Flat PT where
 k:=8
 cs:=fun x=>[.bool x.up,.int .i64 x.k,.bool x.has,.int .i64 x.v.r,.int .i64 x.v.c,.int .i64 x.v.h,.int .i64 x.v.b,.int .i64 x.v.p]
 len:=fun _=>rfl
 pos:=by decide
 one:=fun _ v hv=>by
  simp only [List.mem_cons,List.not_mem_nil,or_false] at hv;rcases hv with rfl | rfl | rfl | rfl | rfl | rfl | rfl | rfl <;> rfl

theorem pt_at {w:World} {ao:Option Addr} {len cap:Nat} {l:List PT} (h:GRow ptF w ao len cap l) (i:Nat) (hi:i < len):∃(x:PT) (b off:Nat),l[i]?=some x∧ao=some ⟨b,off,none⟩ ∧
  w.cell? ⟨b,off+i*8,none⟩=some (.bool x.up)∧w.cell? ⟨b,off+i*8+1,none⟩=some (.int .i64 x.k)∧w.cell? ⟨b,off+i*8+2,none⟩=some (.bool x.has) ∧
  w.cell? ⟨b,off+i*8+3,none⟩=some (.int .i64 x.v.r)∧w.cell? ⟨b,off+i*8+4,none⟩=some (.int .i64 x.v.c)∧w.cell? ⟨b,off+i*8+5,none⟩=some (.int .i64 x.v.h)∧w.cell? ⟨b,off+i*8+6,none⟩=some (.int .i64 x.v.b)∧w.cell? ⟨b,off+i*8+7,none⟩=some (.int .i64 x.v.p):=by
 obtain ⟨x,b,off,hx,ha,hc⟩:=h.at i hi;exact ⟨x,b,off,hx,ha,hc 0 _ rfl,hc 1 _ rfl,hc 2 _ rfl,hc 3 _ rfl,hc 4 _ rfl,hc 5 _ rfl,hc 6 _ rfl,hc 7 _ rfl⟩

def zdS (v:VD):Bool:=v.r == 0 && (v.c == 0 && (v.h == 0 && (v.b == 0 && v.p == 0)))
def okVd (v:VD):Bool:=okVc v.r v.c v.h v.b v.p
def ptOk (x:PT):Bool:=(decide (1≤x.k) && decide (x.k≤1000)) && ((x.up || !x.has) && (if x.has then okVd x.v else zdS x.v))

def stepV (v:VD) (k:Int):VD:=⟨v.r,v.c+k,v.h+1,v.b,v.p⟩
def zcX (v:VD) (k:Int):Bool:=zbi v.r v.c v.h v.b v.p k
def lessV (u v:VD):Bool:=zaT u.r u.c u.b u.p v.r v.c v.b v.p

def offers (id:Int) (x:PT):Bool:=x.up && (x.has && (zcX x.v x.k && decide (x.v.r < id)))

def zbv (id:Int) (s:Option (VD × Nat)) (i:Nat) (x:PT):Option (VD × Nat) :=
 if offers id x=true then
  match s with
  | none=>some (stepV x.v x.k,i)
  | some (f,j)=>if lessV (stepV x.v x.k) f=true then some (stepV x.v x.k,i) else some (f,j)
 else s
def zbe (id:Int) (l:List PT):Nat→Option (VD × Nat)
 | 0=>none
 | k+1=>match l[k]? with
  | some x=>zbv id (zbe id l k) k x
  | none=>zbe id l k
def zW (id:Int) (l:List PT):Option (VD × Nat):=zbe id l l.length

def bestV (id:Int):Option (VD × Nat)→VD
 | none=>⟨id,0,0,id,0⟩
 | some (f,_)=>⟨f.r,f.c,f.h,id,0⟩
def bestP:Option (VD × Nat)→Int
 | none => -1
 | some (_,j)=>(j:Int)
def fromV:Option (VD × Nat)→VD
 | none=>⟨0,0,0,0,0⟩
 | some (f,_)=>f

theorem zd8 {id:Int} {l:List PT} {k:Nat} {x:PT} (h:l[k]?=some x):zbe id l (k+1)=zbv id (zbe id l k) k x:=by
 rw [zbe,h]

theorem zbt {id:Int} {s:Option (VD × Nat)} {i:Nat} {x:PT} (h:offers id x=false):zbv id s i x=s:=by
 unfold zbv;rw [if_neg (by simp [h])]

def sayV (id:Int) (l:List PT) (port:Int):VD:=⟨(bestV id (zW id l)).r,(bestV id (zW id l)).c,(bestV id (zW id l)).h,id,port⟩

def zcU (id:Int) (l:List PT) (i:Nat) (x:PT):Int :=
 if x.up=false then 4
 else if bestP (zW id l)=(i:Int) then 1
 else if (!x.has || lessV (sayV id l i) x.v)=true then 2
 else 3
def zaL (id:Int) (l:List PT) (port:Int):Int :=
 if (decide (0≤port) && decide (port≤(l.length:Int) - 1))=true then
  match l[port.toNat]? with
  | some x=>zcU id l port.toNat x
  | none=>4
 else 4

def zaY (id:Int) (l:List PT):Nat→Int
 | 0=>0
 | k+1=>if zaL id l (k:Int)≤2 then bits .or .i64 (zaY id l k) (2 ^ k) else zaY id l k
def zbd (id:Int) (l:List PT):Int:=zaY id l (min l.length 6)

structure FE where
 t:Int
 m:Int
 p:Int
 a:Int
 s:Bool

def entOk (e:FE):Bool :=
 (decide (1≤e.t) && decide (e.t≤99)) && ((decide (1≤e.m) && decide (e.m≤9999)) && ((decide (0≤e.p) && decide (e.p≤7)) && ((decide (0≤e.a) && decide (e.a≤4)) && (!e.s || (e.a == 0)))))

theorem zfK (e:FE):entOk e=true↔(1≤e.t∧e.t≤99)∧(1≤e.m∧e.m≤9999)∧(0≤e.p∧e.p≤7)∧(0≤e.a∧e.a≤4)∧(e.s=true→e.a=0):=by
 unfold entOk;cases e.s <;> simp

def ahead (e:FE) (t m:Int):Bool:=if (e.t != t)=true then decide (e.t < t) else decide (e.m < m)

def both (e:FE) (t m:Int):Bool:=(e.t == t) && (e.m == m)

theorem zg6 {e:FE} {t m:Int}:both e t m=true↔e.t=t∧e.m=m:=by simp [both]
theorem zg7 {e:FE} {t m:Int}:both e t m=false↔¬(e.t=t∧e.m=m):=by
 rw [← zg6]; simp

theorem zd6 {e:FE} {t m:Int}:ahead e t m=true↔e.t < t∨(e.t=t∧e.m < m):=by
 unfold ahead;by_cases h:e.t=t
 ·simp [h]
 ·simp [h]
theorem zh5 {e:FE} {t m:Int}:ahead e t m=false↔¬(e.t < t∨(e.t=t∧e.m < m)):=by
 rw [← zd6]; simp

def rises:List FE→Bool
 | []=>true
 | [e]=>entOk e
 | e::f::r=>entOk e && (ahead e f.t f.m && rises (f::r))

def fdbOk (l:List FE):Bool:=rises l && decide ((l.length:Int)≤12)

def Sorted (l:List FE):Prop:=(∀e∈l,entOk e=true)∧l.Pairwise (fun e f=>ahead e f.t f.m=true)

theorem zgp {e f g:FE} (h1:ahead e f.t f.m=true) (h2:ahead f g.t g.m=true):ahead e g.t g.m=true:=by
 rw [zd6] at *;omega

theorem zdP:∀(l:List FE),rises l=true↔Sorted l
 | []=>by simp [rises,Sorted]
 | [e]=>by simp [rises,Sorted]
 | e::f::r=>by
  have ih:=zdP (f::r);unfold rises;simp only [Bool.and_eq_true,ih]
  constructor
  ·rintro ⟨h1,h2,h3,h4⟩;refine ⟨?_, ?_⟩
   ·intro x hx;rcases List.mem_cons.1 hx with rfl | hx
    ·exact h1
    ·exact h3 x hx
   ·refine List.pairwise_cons.2 ⟨?_,h4⟩;intro x hx;rcases List.mem_cons.1 hx with rfl | hx
    ·exact h2
    ·exact zgp h2 ((List.pairwise_cons.1 h4).1 x hx)
  ·rintro ⟨h1,h2⟩;obtain ⟨h3,h4⟩:=List.pairwise_cons.1 h2;exact ⟨h1 e (by simp),h3 f (by simp),fun x hx=>h1 x (List.mem_cons_of_mem _ hx),h4⟩

theorem zb3 (l:List FE):fdbOk l=true↔Sorted l∧l.length≤12:=by
 unfold fdbOk;rw [Bool.and_eq_true,zdP,decide_eq_true_eq]
 constructor <;> rintro ⟨h1,h2⟩ <;> exact ⟨h1,by omega⟩

def ageE (e:FE):Option FE:=if e.s=true then some e else if e.a < 4 then some ⟨e.t,e.m,e.p,e.a+1,e.s⟩ else none
def ageF (l:List FE):List FE:=l.filterMap ageE

def zZ (l:List FE) (p:Int):List FE:=l.filter (fun e=>e.s || (e.p != p))

theorem zc7 {e f:FE} (h:ageE e=some f):f.t=e.t∧f.m=e.m∧f.p=e.p∧f.s=e.s∧((e.s=true∧f.a=e.a)∨(e.s=false∧e.a < 4∧f.a=e.a+1)):=by
 unfold ageE at h;cases hs:e.s
 ·rw [hs] at h;simp only [Bool.false_eq_true,if_false] at h
  split at h
  ·rename_i ha
   cases h;exact ⟨rfl,rfl,rfl,rfl,.inr ⟨rfl,ha,rfl⟩⟩
  ·cases h
 ·rw [hs] at h;simp only [if_true] at h;cases h;exact ⟨rfl,rfl,rfl,hs,.inl ⟨rfl,rfl⟩⟩

theorem zhD {l:List FE} (h:Sorted l):Sorted (ageF l):=by
 unfold ageF;refine ⟨?_, ?_⟩
 ·intro f hf;obtain ⟨e,he,hef⟩:=List.mem_filterMap.1 hf;have h1:=h.1 e he;obtain ⟨a1,a2,a3,a4,a5⟩:=zc7 hef;rw [zfK] at *;rcases a5 with ⟨b1,b2⟩ | ⟨b1,b2,b3⟩
  ·rw [a1,a2,a3,a4,b2]; exact h1
  ·rw [a1,a2,a3,a4,b3,b1];refine ⟨h1.1,h1.2.1,h1.2.2.1,by omega,by simp⟩
 ·rw [List.pairwise_filterMap];refine h.2.imp ?_;intro a b hab x hx y hy;obtain ⟨a1,a2,-⟩:=zc7 hx;obtain ⟨b1,b2,-⟩:=zc7 hy;rw [zd6] at *;rw [a1,a2,b1,b2];exact hab

theorem zkh {l:List FE} (h:fdbOk l=true):fdbOk (ageF l)=true:=by
 rw [zb3] at *;exact ⟨zhD h.1,Nat.le_trans (List.length_filterMap_le _ _) h.2⟩

theorem zh2 {l k:List FE} (h:Sorted l) (hs:k.Sublist l):Sorted k:=⟨fun e he=>h.1 e (hs.subset he),h.2.sublist hs⟩

theorem zjl {l:List FE} (h:fdbOk l=true) (p:Int):fdbOk (zZ l p)=true:=by
 rw [zb3] at *;exact ⟨zh2 h.1 List.filter_sublist,Nat.le_trans (List.length_filter_le _ _) h.2⟩

section
open Go.RowKit

def fentF:Flat FE where
 k:=5
 cs:=fun e=>[.int .i64 e.t,.int .i64 e.m,.int .i64 e.p,.int .i64 e.a,.bool e.s]
 len:=fun _=>rfl
 pos:=by decide
 one:=fun _ v hv=>by
  simp only [List.mem_cons,List.not_mem_nil,or_false] at hv;rcases hv with rfl | rfl | rfl | rfl | rfl <;> rfl

def FE.Rng (e:FE):Prop:=(-9223372036854775808≤e.t∧e.t≤9223372036854775807)∧(-9223372036854775808≤e.m∧e.m≤9223372036854775807)∧(-9223372036854775808≤e.p∧e.p≤9223372036854775807)∧(-9223372036854775808≤e.a∧e.a≤9223372036854775807)

theorem zcx {w:World} {ao:Option Addr} {len cap:Nat} {l:List FE} (h:GRow fentF w ao len cap l) (i:Nat) (hi:i < len):∃(x:FE) (b off:Nat),l[i]?=some x∧ao=some ⟨b,off,none⟩ ∧
  w.cell? ⟨b,off+i*5,none⟩=some (.int .i64 x.t)∧w.cell? ⟨b,off+i*5+1,none⟩=some (.int .i64 x.m)∧w.cell? ⟨b,off+i*5+2,none⟩=some (.int .i64 x.p)∧w.cell? ⟨b,off+i*5+3,none⟩=some (.int .i64 x.a)∧w.cell? ⟨b,off+i*5+4,none⟩=some (.bool x.s):=by
 obtain ⟨x,b,off,hx,ha,hc⟩:=h.at i hi;exact ⟨x,b,off,hx,ha,hc 0 _ rfl,hc 1 _ rfl,hc 2 _ rfl,hc 3 _ rfl,hc 4 _ rfl⟩

section
open Go.ChangeShapes Go.WideShapes Go.ChangeAt
variable {H:Type} {enc:TypeId × Value→H} {P:Program} {w:World}

end

end

structure BR where
 id:Int
 name:ByteArray
 ports:List PT
 f:List FE
 v:VT
 ticks:Int
 parse:Int
 word:Int
 drops:Int
 vers:Int

def in1m (x:Int):Bool:=decide (0≤x) && decide (x≤1000000)
def zan (a b c d e:Int):Bool:=in1m a && (in1m b && (in1m c && (in1m d && in1m e)))
def zx (b:BR):Bool :=
 b.ports.all ptOk && (in3 b.id 1 99 && (decide ((b.name.size:Int)≤10) && (in3 (b.ports.length:Int) 1 6 && (fdbOk b.f && (zaw b.v (b.ports.length:Int) && zan b.ticks b.parse b.word b.drops b.vers)))))

structure BrRow (w:World) (a:Option Addr) (n c:Nat) (fa:Option Addr) (fn fc:Nat) (ra:Option Addr) (rn rc:Nat) (oa:Option Addr) (on oc:Nat) (b:BR):Prop where
 ports:GRow ptF w a n c b.ports
 f:GRow fentF w fa fn fc b.f
 v:VTab w ra rn rc oa on oc b.v

theorem BrRow.below {w w':World} {a:Option Addr} {n c:Nat} {fa:Option Addr} {fn fc:Nat} {ra:Option Addr} {rn rc:Nat} {oa:Option Addr} {on oc:Nat} {b:BR} (h:BrRow w a n c fa fn fc ra rn rc oa on oc b) (hb:Below w.heap.size w w'):BrRow w' a n c fa fn fc ra rn rc oa on oc b :=
 ⟨h.ports.below hb,h.f.below hb,h.v.below hb⟩

structure BV where
 a:Option Addr
 n:Nat
 c:Nat
 fa:Option Addr
 fn:Nat
 fc:Nat
 ra:Option Addr
 rn:Nat
 rc:Nat
 oa:Option Addr
 on:Nat
 oc:Nat
 B:BR

def BV.Reads (w:World) (x:BV):Prop:=BrRow w x.a x.n x.c x.fa x.fn x.fc x.ra x.rn x.rc x.oa x.on x.oc x.B

def brF:Flat BV where
 k:=11
 cs:=fun x=>[.int .i64 x.B.id,.string x.B.name,.slice x.a x.n x.c,.slice x.fa x.fn x.fc,.slice x.ra x.rn x.rc,.slice x.oa x.on x.oc,.int .i64 x.B.ticks,.int .i64 x.B.parse,.int .i64 x.B.word,.int .i64 x.B.drops,.int .i64 x.B.vers]
 len:=fun _=>rfl
 pos:=by decide
 one:=fun _ v hv=>by
  simp only [List.mem_cons,List.not_mem_nil,or_false] at hv;rcases hv with rfl | rfl | rfl | rfl | rfl | rfl | rfl | rfl | rfl | rfl | rfl <;> rfl

theorem br_at {w:World} {ao:Option Addr} {len cap:Nat} {l:List BV} (h:GRow brF w ao len cap l) (i:Nat) (hi:i < len):∃(x:BV) (b off:Nat),l[i]?=some x∧ao=some ⟨b,off,none⟩∧w.cell? ⟨b,off+i*11,none⟩=some (.int .i64 x.B.id)∧w.cell? ⟨b,off+i*11+1,none⟩=some (.string x.B.name)∧w.cell? ⟨b,off+i*11+2,none⟩=some (.slice x.a x.n x.c)∧w.cell? ⟨b,off+i*11+3,none⟩=some (.slice x.fa x.fn x.fc)∧w.cell? ⟨b,off+i*11+4,none⟩=some (.slice x.ra x.rn x.rc)∧w.cell? ⟨b,off+i*11+5,none⟩=some (.slice x.oa x.on x.oc)∧w.cell? ⟨b,off+i*11+6,none⟩=some (.int .i64 x.B.ticks)∧w.cell? ⟨b,off+i*11+7,none⟩=some (.int .i64 x.B.parse)∧w.cell? ⟨b,off+i*11+8,none⟩=some (.int .i64 x.B.word)∧w.cell? ⟨b,off+i*11+9,none⟩=some (.int .i64 x.B.drops)∧w.cell? ⟨b,off+i*11+10,none⟩=some (.int .i64 x.B.vers):=by
 obtain ⟨x,b,off,hx,ha,hc⟩:=h.at i hi;exact ⟨x,b,off,hx,ha,hc 0 _ rfl,hc 1 _ rfl,hc 2 _ rfl,hc 3 _ rfl,hc 4 _ rfl,hc 5 _ rfl,hc 6 _ rfl,hc 7 _ rfl,hc 8 _ rfl,hc 9 _ rfl,hc 10 _ rfl⟩

theorem zcN:(Tryz.prog.info? 63).map (fun i=>(i.zero,i.size,i.bytes))=some (some (.agg #[.int .i64 0,.string ⟨#[]⟩,.slice none 0 0,.slice none 0 0,.slice none 0 0,.slice none 0 0,.int .i64 0,.int .i64 0,.int .i64 0,.int .i64 0,.int .i64 0]),brF.k,160):=by kernel_rfl

abbrev BV.val (x:BV):Value:=.agg #[.int .i64 x.B.id,.string x.B.name,.slice x.a x.n x.c,.slice x.fa x.fn x.fc,.slice x.ra x.rn x.rc,.slice x.oa x.on x.oc,.int .i64 x.B.ticks,.int .i64 x.B.parse,.int .i64 x.B.word,.int .i64 x.B.drops,.int .i64 x.B.vers]

theorem BV.Reads.below {w w':World} {x:BV} (h:x.Reads w) (hb:Below w.heap.size w w'):x.Reads w':=BrRow.below h hb

structure LK where
 a:Int
 p:Int
 b:Int
 q:Int
 deriving DecidableEq

structure SY where
 l:Int
 back:Bool
 v:VD

def linkF:Flat LK where
 k:=4
 cs:=fun x=>[.int .i64 x.a,.int .i64 x.p,.int .i64 x.b,.int .i64 x.q]
 len:=fun _=>rfl
 pos:=by decide
 one:=fun _ v hv=>by
  simp only [List.mem_cons,List.not_mem_nil,or_false] at hv;rcases hv with rfl | rfl | rfl | rfl <;> rfl

def sayF:Flat SY where
 k:=7
 cs:=fun x=>[.int .i64 x.l,.bool x.back,.int .i64 x.v.r,.int .i64 x.v.c,.int .i64 x.v.h,.int .i64 x.v.b,.int .i64 x.v.p]
 len:=fun _=>rfl
 pos:=by decide
 one:=fun _ v hv=>by
  simp only [List.mem_cons,List.not_mem_nil,or_false] at hv;rcases hv with rfl | rfl | rfl | rfl | rfl | rfl | rfl <;> rfl

theorem zaF {w:World} {ao:Option Addr} {len cap:Nat} {l:List LK} (h:GRow linkF w ao len cap l) (i:Nat) (hi:i < len):∃(x:LK) (b off:Nat),l[i]?=some x∧ao=some ⟨b,off,none⟩∧w.cell? ⟨b,off+i*4,none⟩=some (.int .i64 x.a)∧w.cell? ⟨b,off+i*4+1,none⟩=some (.int .i64 x.p)∧w.cell? ⟨b,off+i*4+2,none⟩=some (.int .i64 x.b)∧w.cell? ⟨b,off+i*4+3,none⟩=some (.int .i64 x.q):=by
 obtain ⟨x,b,off,hx,ha,hc⟩:=h.at i hi;exact ⟨x,b,off,hx,ha,hc 0 _ rfl,hc 1 _ rfl,hc 2 _ rfl,hc 3 _ rfl⟩

theorem zfb {w:World} {ao:Option Addr} {len cap:Nat} {l:List SY} (h:GRow sayF w ao len cap l) (i:Nat) (hi:i < len):∃(x:SY) (b off:Nat),l[i]?=some x∧ao=some ⟨b,off,none⟩∧w.cell? ⟨b,off+i*7,none⟩=some (.int .i64 x.l)∧w.cell? ⟨b,off+i*7+1,none⟩=some (.bool x.back)∧w.cell? ⟨b,off+i*7+2,none⟩=some (.int .i64 x.v.r)∧w.cell? ⟨b,off+i*7+3,none⟩=some (.int .i64 x.v.c)∧w.cell? ⟨b,off+i*7+4,none⟩=some (.int .i64 x.v.h)∧w.cell? ⟨b,off+i*7+5,none⟩=some (.int .i64 x.v.b)∧w.cell? ⟨b,off+i*7+6,none⟩=some (.int .i64 x.v.p):=by
 obtain ⟨x,b,off,hx,ha,hc⟩:=h.at i hi;exact ⟨x,b,off,hx,ha,hc 0 _ rfl,hc 1 _ rfl,hc 2 _ rfl,hc 3 _ rfl,hc 4 _ rfl,hc 5 _ rfl,hc 6 _ rfl⟩

theorem zaU:(Tryz.prog.info? 44).map (fun i=>(i.zero,i.size,i.bytes))=some (some (.agg #[.int .i64 0,.int .i64 0,.int .i64 0,.int .i64 0]),linkF.k,32):=by kernel_rfl

theorem zV:(Tryz.prog.info? 90).map (fun i=>(i.zero,i.size,i.bytes))=some (some (.agg #[.int .i64 0,.bool false,.int .i64 0,.int .i64 0,.int .i64 0,.int .i64 0,.int .i64 0]),sayF.k,56):=by kernel_rfl

structure NV where
 ba:Option Addr
 bn:Nat
 bc:Nat
 bs:List BV
 la:Option Addr
 ln:Nat
 lc:Nat
 ls:List LK
 sa:Option Addr
 sn:Nat
 sc:Nat
 ss:List SY

structure zax (w:World) (N:NV):Prop where
 b:GRow brF w N.ba N.bn N.bc N.bs
 item:∀x∈N.bs,x.Reads w
 l:GRow linkF w N.la N.ln N.lc N.ls
 s:GRow sayF w N.sa N.sn N.sc N.ss

theorem zax.below {w w':World} {N:NV} (h:zax w N) (hb:Below w.heap.size w w'):zax w' N :=
 ⟨h.b.below hb,fun x hx=>(h.item x hx).below hb,h.l.below hb,h.s.below hb⟩

def NV.brs (N:NV):List BR:=N.bs.map BV.B

theorem zg0 (R C H B P R' C' H' B' P':Int) (w:World):(binOp .eql 65 (.agg #[.int .i64 R,.int .i64 C,.int .i64 H,.int .i64 B,.int .i64 P]) (.agg #[.int .i64 R',.int .i64 C',.int .i64 H',.int .i64 B',.int .i64 P'])).run Tryz.prog w=.ok (.bool ((R == R') && ((C == C') && ((H == H') && ((B == B') && (P == P')))))) w:=by
 have u3:=Tryz.underlying3;have a3:=Tryz.isAgg3;have z3:=Tryz.sizeOf3;have hS:Tryz.prog.underlying 65=some (.struct (Tryz.prog.fieldsOf 65)):=by kernel_rfl
 have hp:Tryz.prog.stoodInHeld 65=false:=by kernel_rfl
 rw [run_eql_struct,show (10000:Nat)=9999+1 from rfl,run_equalIn_agg w 9999 65 _ _ hS hp];simp only [Program.fieldsOf,Tryz.underlying65];go_simp;by_cases h1:R=R' <;> by_cases h2:C=C' <;> by_cases h3:H=H' <;> by_cases h4:B=B' <;> by_cases h5:P=P' <;> simp [h1,h2,h3,h4,h5]

theorem zg8 {w:World} {g:Nat} {T:TypeId} {c0 c1 c2 c3 c4 c5 c6 c7:Value} (h:w.heap[g]?=some (.cells #[c0,c1,c2,c3,c4,c5,c6,c7] T)) :
  w.cell? ⟨g,0,none⟩=some c0∧w.cell? ⟨g,1,none⟩=some c1∧w.cell? ⟨g,2,none⟩=some c2∧w.cell? ⟨g,3,none⟩=some c3∧w.cell? ⟨g,4,none⟩=some c4∧w.cell? ⟨g,5,none⟩=some c5∧w.cell? ⟨g,6,none⟩=some c6∧w.cell? ⟨g,7,none⟩=some c7:=by
 simp [World.cell?,h]

theorem zdR (x:PT) (w:World) :
  Calls Tryz.prog 147 #[.agg #[.bool x.up,.int .i64 x.k,.bool x.has,.int .i64 x.v.r,.int .i64 x.v.c,.int .i64 x.v.h,.int .i64 x.v.b,.int .i64 x.v.p]] w fun e w'=>e=.returned (.bool (ptOk x))∧Below w.heap.size w w':=by
 have he:∀W,(binOp .eql 65 (.agg #[.int .i64 x.v.r,.int .i64 x.v.c,.int .i64 x.v.h,.int .i64 x.v.b,.int .i64 x.v.p]) (.agg #[.int .i64 0,.int .i64 0,.int .i64 0,.int .i64 0,.int .i64 0])).run Tryz.prog W=.ok (.bool (zdS x.v)) W:=fun W=>by rw [zg0]; rfl
 have hgd:Tryz.prog.eqGuardType Tryz.prog.depth 65=false:=by kernel_rfl
 obtain ⟨up,k,has,⟨r,c,h,b,p⟩⟩:=x
 simp only at he ⊢
 generalize hw1:w.alloc (.cells #[.bool up,.int .i64 k,.bool has,.int .i64 r,.int .i64 c,.int .i64 h,.int .i64 b,.int .i64 p] 67)=w1;have q0:=zb hw1;obtain ⟨c0,c1,c2,c3,c4,c5,c6,c7⟩:=zg8 (by rw [← hw1]; exact zw w _:w1.heap[w.heap.size]?=_);cases t1:(decide (1≤k) && decide (k≤1000))
 ·have T1:=hide t1;rw [show ptOk ⟨up,k,has,⟨r,c,h,b,p⟩⟩=false by unfold ptOk; rw [t1]; rfl];clear t1;go_enter Tryz.func147,Tryz.ntmps147;(go_wp2_with fail);refine (zg k 1 1000 _).mono ?_;rintro e w2 ⟨rfl,rfl⟩;rw [T1.out];go_wp2;go_ret;exact ⟨rfl,q0⟩
 cases has
 ·rw [show ptOk ⟨up,k,false,⟨r,c,h,b,p⟩⟩=zdS ⟨r,c,h,b,p⟩ by unfold ptOk; rw [t1]; cases up <;> rfl];have T1:=hide t1;generalize zdS ⟨r,c,h,b,p⟩=Q at *;clear t1;cases up <;>
  ·go_enter Tryz.func147,Tryz.ntmps147;(go_wp2_with fail);refine (zg k 1 1000 _).mono ?_;rintro e w2 ⟨rfl,rfl⟩;rw [T1.out];go_wp2;go_ret;exact ⟨rfl,q0⟩
 cases up
 ·rw [show ptOk ⟨false,k,true,⟨r,c,h,b,p⟩⟩=false by unfold ptOk; rw [t1]; rfl];have T1:=hide t1;clear t1;go_enter Tryz.func147,Tryz.ntmps147;(go_wp2_with fail);refine (zg k 1 1000 _).mono ?_;rintro e w2 ⟨rfl,rfl⟩;rw [T1.out];go_wp2;go_ret;exact ⟨rfl,q0⟩
 ·rw [show ptOk ⟨true,k,true,⟨r,c,h,b,p⟩⟩=okVc r c h b p by unfold ptOk; rw [t1]; rfl];have T1:=hide t1;clear t1;go_enter Tryz.func147,Tryz.ntmps147;(go_wp2_with fail);refine (zg k 1 1000 _).mono ?_;rintro e w2 ⟨rfl,rfl⟩;rw [T1.out];(go_wp2_with fail);refine (zay r c h b p _).mono ?_;rintro e w3 ⟨rfl,hb3⟩;have HB:=hide (zc q0 hb3);clear hb3;go_wp2;go_ret;exact ⟨rfl,HB.out⟩

theorem zcl (e:FE) (w:World) :
  Calls Tryz.prog 186 #[.agg #[.int .i64 e.t,.int .i64 e.m,.int .i64 e.p,.int .i64 e.a,.bool e.s]] w fun r w'=>r=.returned (.bool (entOk e))∧Below w.heap.size w w':=by
 generalize hP:entOk e=Q;unfold entOk at hP;cases t1:(decide (1≤e.t) && decide (e.t≤99))
 ·have h:Q=false:=by rw [← hP,t1]; rfl
  subst h;have T1:=hide t1;clear hP t1;go_enter Tryz.func186,Tryz.ntmps186;(go_wp2_with fail);refine (zg e.t 1 99 _).mono ?_;rintro r w1 ⟨rfl,rfl⟩;rw [T1.out];go_wp2;go_ret;exact ⟨rfl,zm _ _⟩
 cases t2:(decide (1≤e.m) && decide (e.m≤9999))
 ·have h:Q=false:=by rw [← hP,t1,t2]; rfl
  subst h;have T1:=hide t1;have T2:=hide t2;clear hP t1 t2;go_enter Tryz.func186,Tryz.ntmps186;(go_wp2_with fail);refine (zg e.t 1 99 _).mono ?_;rintro r w1 ⟨rfl,rfl⟩;rw [T1.out];(go_wp2_with fail);refine (zg e.m 1 9999 _).mono ?_;rintro r w2 ⟨rfl,rfl⟩;rw [T2.out];go_wp2;go_ret;exact ⟨rfl,zm _ _⟩
 cases t3:(decide (0≤e.p) && decide (e.p≤7))
 ·have h:Q=false:=by rw [← hP,t1,t2,t3]; rfl
  subst h;have T1:=hide t1;have T2:=hide t2;have T3:=hide t3;clear hP t1 t2 t3;go_enter Tryz.func186,Tryz.ntmps186;(go_wp2_with fail);refine (zg e.t 1 99 _).mono ?_;rintro r w1 ⟨rfl,rfl⟩;rw [T1.out];(go_wp2_with fail);refine (zg e.m 1 9999 _).mono ?_;rintro r w2 ⟨rfl,rfl⟩;rw [T2.out];(go_wp2_with fail);refine (zg e.p 0 7 _).mono ?_;rintro r w3 ⟨rfl,rfl⟩;rw [T3.out];go_wp2;go_ret;exact ⟨rfl,zm _ _⟩
 cases t4:(decide (0≤e.a) && decide (e.a≤4))
 ·have h:Q=false:=by rw [← hP,t1,t2,t3,t4]; rfl
  subst h;have T1:=hide t1;have T2:=hide t2;have T3:=hide t3;have T4:=hide t4;clear hP t1 t2 t3 t4;go_enter Tryz.func186,Tryz.ntmps186;(go_wp2_with fail);refine (zg e.t 1 99 _).mono ?_;rintro r w1 ⟨rfl,rfl⟩;rw [T1.out];(go_wp2_with fail);refine (zg e.m 1 9999 _).mono ?_;rintro r w2 ⟨rfl,rfl⟩;rw [T2.out];(go_wp2_with fail);refine (zg e.p 0 7 _).mono ?_;rintro r w3 ⟨rfl,rfl⟩;rw [T3.out];(go_wp2_with fail);refine (zg e.a 0 4 _).mono ?_;rintro r w4 ⟨rfl,rfl⟩;rw [T4.out];go_wp2;go_ret;exact ⟨rfl,zm _ _⟩
 rw [t1,t2,t3,t4,Bool.true_and,Bool.true_and,Bool.true_and,Bool.true_and] at hP;have T1:=hide t1;have T2:=hide t2;have T3:=hide t3;have T4:=hide t4;clear t1 t2 t3 t4;cases hs:e.s
 ·rw [hs] at hP;have h:Q=true:=by rw [← hP]; rfl
  subst h;clear hP;go_enter Tryz.func186,Tryz.ntmps186;(go_wp2_with fail);refine (zg e.t 1 99 _).mono ?_;rintro r w1 ⟨rfl,rfl⟩;rw [T1.out];(go_wp2_with fail);refine (zg e.m 1 9999 _).mono ?_;rintro r w2 ⟨rfl,rfl⟩;rw [T2.out];(go_wp2_with fail);refine (zg e.p 0 7 _).mono ?_;rintro r w3 ⟨rfl,rfl⟩;rw [T3.out];(go_wp2_with fail);refine (zg e.a 0 4 _).mono ?_;rintro r w4 ⟨rfl,rfl⟩;rw [T4.out];go_wp2;go_ret;exact ⟨rfl,zm _ _⟩
 ·rw [hs,Bool.not_true,Bool.false_or] at hP;have HP:=hide hP;clear hP;go_enter Tryz.func186,Tryz.ntmps186;(go_wp2_with fail);refine (zg e.t 1 99 _).mono ?_;rintro r w1 ⟨rfl,rfl⟩;rw [T1.out];(go_wp2_with fail);refine (zg e.m 1 9999 _).mono ?_;rintro r w2 ⟨rfl,rfl⟩;rw [T2.out];(go_wp2_with fail);refine (zg e.p 0 7 _).mono ?_;rintro r w3 ⟨rfl,rfl⟩;rw [T3.out];(go_wp2_with fail);refine (zg e.a 0 4 _).mono ?_;rintro r w4 ⟨rfl,rfl⟩;rw [T4.out];go_wp2;go_ret;exact ⟨zI HP.out,zm _ _⟩

theorem zdw (e:FE) (t m:Int) (w:World) :
  Calls Tryz.prog 187 #[.agg #[.int .i64 e.t,.int .i64 e.m,.int .i64 e.p,.int .i64 e.a,.bool e.s],.int .i64 t,.int .i64 m] w fun r w'=>r=.returned (.bool (ahead e t m))∧Below w.heap.size w w':=by
 unfold ahead;cases t1:(e.t != t)
 ·rw [if_neg Bool.false_ne_true];go_enter Tryz.func187,Tryz.ntmps187;go_wp2;go_ret;exact ⟨rfl,zm _ _⟩
 ·rw [if_pos rfl];go_enter Tryz.func187,Tryz.ntmps187;go_wp2;go_ret;exact ⟨rfl,zm _ _⟩

def okTo (l:List FE) (k:Nat):Prop:=∀i x,i < k→l[i]?=some x→entOk x=true∧∀y,0 < i→l[i - 1]?=some y→ahead y x.t x.m=true

theorem zdH:∀(l:List FE),rises l=true↔okTo l l.length
 | []=>by simp [rises,okTo]
 | [e]=>by
  simp only [rises,okTo,List.length_singleton]
  constructor
  ·intro h i x hi hx;have h0:i=0:=by omega
   subst h0
   simp at hx
   subst hx;exact ⟨h,fun y hy=>by omega⟩
  ·intro h;exact (h 0 e (by omega) rfl).1
 | e::f::r=>by
  have ih:=zdH (f::r);unfold rises;simp only [Bool.and_eq_true,ih]
  constructor
  ·rintro ⟨h1,h2,h3⟩ i x hi hx
   match i,hx with
   | 0,hx =>
    simp at hx
    subst hx;exact ⟨h1,fun y hy=>by omega⟩
   | 1,hx =>
    simp at hx
    subst hx;refine ⟨(h3 0 f (by simp) rfl).1,fun y _ hy => ?_⟩
    simp at hy
    subst hy;exact h2
   | i+2,hx =>
    obtain ⟨a1,a2⟩:=h3 (i+1) x (by simp at hi ⊢; omega) (by simpa using hx);exact ⟨a1,fun y _ hy=>a2 y (by omega) (by simpa using hy)⟩
  ·intro h;refine ⟨(h 0 e (by simp) rfl).1,(h 1 f (by simp) rfl).2 e (by omega) rfl,fun i x hi hx => ?_⟩;obtain ⟨a1,a2⟩:=h (i+1) x (by simp at hi ⊢; omega) (by simpa using hx);refine ⟨a1,fun y hy hz=>a2 y (by omega) ?_⟩;obtain ⟨j,rfl⟩:∃j,i=j+1:=⟨i - 1,by omega⟩
   simpa using hz

theorem zdr {l:List FE} {k:Nat} {x:FE} (h:okTo l k) (hx:l[k]?=some x) (h1:entOk x=true) (h2:∀y,0 < k→l[k - 1]?=some y→ahead y x.t x.m=true):okTo l (k+1):=by
 intro i z hi hz;by_cases e:i=k
 ·subst e;rw [hx] at hz;cases hz;exact ⟨h1,h2⟩
 ·exact h i z (by omega) hz

theorem zdg {l:List FE} (h:¬okTo l l.length):fdbOk l=false:=by
 unfold fdbOk
 have:rises l=false:=by
  cases hr:rises l
  ·rfl
  ·exact absurd ((zdH l).1 hr) h
 rw [this]
 rfl

theorem zfN {l:List FE} (h:okTo l l.length):fdbOk l=decide ((l.length:Int)≤12):=by
 unfold fdbOk;rw [(zdH l).2 h]
 rfl

theorem zkA:(Tryz.prog.info? 67).map (fun i=>(i.zero,i.size,i.bytes))=some (some (.agg #[.bool false,.int .i64 0,.bool false,.int .i64 0,.int .i64 0,.int .i64 0,.int .i64 0,.int .i64 0]),ptF.k,64):=by kernel_rfl

theorem zes (w:World) {ops:Array Oper} {rest:List Oper} {o:Oper} {a:Act} {Q:Exit→Act→World→Prop} (hgd:o.guard=none)
  (s x:Operand) (ho:o.op=Op.call { callee:=Callee.builtin Builtin.append,args:=#[s,x],argTypes:=#[57,57] }) (base:Nat)
  (v:Value) (n:Nat) (xs:List PT) (hs:a.eval s=v) (hown:w.ownsRow base 67 8 v n (ptF.all xs)) (ao:Option Addr) (m c:Nat) (zs:List PT)
  (hx:a.eval x=.slice ao m c) (hrow:GRow ptF w ao m c zs) (hsm:n+m≤137438953472) (hbase:base≤w.heap.size)
  (h:∀ao' cap' w',w'.ownsRow base 67 8 (.slice ao' (n+m) cap') (n+m) (ptF.all (xs++zs))→GRow ptF w' ao' (n+m) cap' (xs++zs)→w.grownBy w' v.ownBlock→Below base w w'→wpList Tryz.prog ops Q rest (a.put o.dst (.slice ao' (n+m) cap')) w') :
  wpList Tryz.prog ops Q (o::rest) a w :=
 zM (F:=ptF) w hgd s x 57 67 ho base Tryz.underlying57 zkA rfl (by decide) v n xs hs hown ao m c zs hx hrow hsm hbase h

theorem zf {w:World} {g:Nat} {T:TypeId} {cs:Array Value} (h:w.heap[g]?=some (.cells cs T)) (j:Nat):w.frozen? ⟨g,j,none⟩=false:=by
 simp [World.frozen?,h]

theorem zhT {w w':World} {b off n cap:Nat} {l:List LK} (h:GRow linkF w (some ⟨b,off,none⟩) n cap l) (hb:Below w.heap.size w w') {i:Nat} {x:LK} (hx:l[i]?=some x) :
  w'.cell? ⟨b,off+i*4,none⟩=some (.int .i64 x.a)∧w'.cell? ⟨b,off+i*4+1,none⟩=some (.int .i64 x.p)∧w'.cell? ⟨b,off+i*4+2,none⟩=some (.int .i64 x.b)∧w'.cell? ⟨b,off+i*4+3,none⟩=some (.int .i64 x.q):=by
 have hi:i < n:=by
  have:=(List.getElem?_eq_some_iff.1 hx).1
  have:=h.size
  omega
 obtain ⟨y,b',off',hy,e,c⟩:=zaF (h.below hb) i hi;cases e;rw [hx] at hy;cases hy;exact c

def LK.zero:LK:=⟨0,0,0,0⟩

theorem zY {w:World} {g:Nat} {T:TypeId} {c0 c1 c2 c3 c4 c5 c6:Value} (h:w.heap[g]?=some (.cells #[c0,c1,c2,c3,c4,c5,c6] T)) :
  w.cell? ⟨g,0,none⟩=some c0∧w.cell? ⟨g,1,none⟩=some c1∧w.cell? ⟨g,2,none⟩=some c2∧w.cell? ⟨g,3,none⟩=some c3∧w.cell? ⟨g,4,none⟩=some c4∧w.cell? ⟨g,5,none⟩=some c5∧w.cell? ⟨g,6,none⟩=some c6:=by
 simp [World.cell?,h]

theorem zbo {w w':World} {b off n cap:Nat} {l:List SY} (h:GRow sayF w (some ⟨b,off,none⟩) n cap l) (hb:Below w.heap.size w w') {i:Nat} {x:SY} (hx:l[i]?=some x) :
  w'.cell? ⟨b,off+i*7,none⟩=some (.int .i64 x.l)∧w'.cell? ⟨b,off+i*7+1,none⟩=some (.bool x.back)∧w'.cell? ⟨b,off+i*7+2,none⟩=some (.int .i64 x.v.r)∧w'.cell? ⟨b,off+i*7+3,none⟩=some (.int .i64 x.v.c)∧w'.cell? ⟨b,off+i*7+4,none⟩=some (.int .i64 x.v.h)∧w'.cell? ⟨b,off+i*7+5,none⟩=some (.int .i64 x.v.b)∧w'.cell? ⟨b,off+i*7+6,none⟩=some (.int .i64 x.v.p):=by
 have hi:i < n:=by
  have:=(List.getElem?_eq_some_iff.1 hx).1
  have:=h.size
  omega
 obtain ⟨y,b',off',hy,e,c⟩:=zfb (h.below hb) i hi;cases e;rw [hx] at hy;cases hy;exact c

def SY.zero:SY:=⟨0,false,⟨0,0,0,0,0⟩⟩

def I64 (x:Int):Prop := -9223372036854775808≤x∧x≤9223372036854775807

def VR.Rng (r:VR):Prop:=I64 r.i∧I64 r.m∧I64 r.b

theorem bv_of (x:Int):(BitVec.ofInt 64 x).toNat=(x % 18446744073709551616).toNat:=by
 rw [BitVec.toNat_ofInt]
 rfl

theorem zi0 (x:BitVec 64):IntKind.i64.wrap (x.toNat:Int)=x.toInt:=by
 have:=x.isLt
 rw [IntKind.wrap_i64,BitVec.toInt_eq_toNat_cond]
 split <;> omega

theorem zc9 (a b:Int):bits .and .i64 a b=(BitVec.ofInt 64 a &&& BitVec.ofInt 64 b).toInt:=by
 rw [← zi0]
 rfl
theorem zgt (a b:Int):bits .andNot .i64 a b=(BitVec.ofInt 64 a &&& ~~~(BitVec.ofInt 64 b)).toInt:=by
 rw [← zi0]
 rfl

theorem zfe {x:BitVec 64}:x.toInt=0↔x=0#64:=by
 rw [← BitVec.toInt_inj]
 simp

theorem zdB (x:Int) (h:I64 x):(BitVec.ofInt 64 x).toInt=x:=by
 unfold I64 at h;rw [BitVec.toInt_ofInt];rw [Int.bmod_def];omega

theorem zeQ (b m:Int) (hb:I64 b):(bits .andNot .i64 b m == 0)=(bits .and .i64 b m == b):=by
 rw [zc9,zgt];have key:(BitVec.ofInt 64 b &&& ~~~(BitVec.ofInt 64 m))=0#64↔(BitVec.ofInt 64 b &&& BitVec.ofInt 64 m)=BitVec.ofInt 64 b:=by
  constructor
  ·intro h
   apply BitVec.eq_of_getLsbD_eq
   intro i hi
   have:=congrArg (fun z=>z.getLsbD i) h
   simp only [BitVec.getLsbD_and,BitVec.getLsbD_not,hi,decide_true,Bool.true_and,BitVec.getLsbD_zero] at this;simp only [BitVec.getLsbD_and];cases h1:(BitVec.ofInt 64 b).getLsbD i <;> cases h2:(BitVec.ofInt 64 m).getLsbD i <;> simp_all
  ·intro h
   apply BitVec.eq_of_getLsbD_eq
   intro i hi
   have:=congrArg (fun z=>z.getLsbD i) h
   simp only [BitVec.getLsbD_and] at this;simp only [BitVec.getLsbD_and,BitVec.getLsbD_not,hi,decide_true,Bool.true_and,BitVec.getLsbD_zero];cases h1:(BitVec.ofInt 64 b).getLsbD i <;> cases h2:(BitVec.ofInt 64 m).getLsbD i <;> simp_all
 have e2:((BitVec.ofInt 64 b &&& BitVec.ofInt 64 m).toInt=b)↔(BitVec.ofInt 64 b &&& BitVec.ofInt 64 m)=BitVec.ofInt 64 b:=by
  constructor
  ·intro h
   apply BitVec.toInt_inj.1
   rw [h,zdB b hb]
  ·intro h;rw [h,zdB b hb]
 have e1:=zfe (x:=BitVec.ofInt 64 b &&& ~~~(BitVec.ofInt 64 m));rw [Bool.eq_iff_iff];simp only [beq_iff_eq];rw [e1,key,e2]

theorem zj4 (p:Nat) (hp:p≤6):(BitVec.ofInt 64 (allOf p)).toNat=2 ^ p - 1:=by
 rcases (show p=0∨p=1∨p=2∨p=3∨p=4∨p=5∨p=6 by omega) with rfl | rfl | rfl | rfl | rfl | rfl | rfl <;> rfl

theorem ziG (p:Nat) (hp:p≤6):(2:Nat) ^ p≤64∧((2:Int) ^ p=((2 ^ p:Nat):Int))∧1≤(2:Nat) ^ p:=by
 rcases (show p=0∨p=1∨p=2∨p=3∨p=4∨p=5∨p=6 by omega) with rfl | rfl | rfl | rfl | rfl | rfl | rfl <;> exact ⟨by decide,rfl,by decide⟩

theorem zgq (m:Int) (p:Nat) (hm:I64 m) (hp:p≤6):(bits .andNot .i64 m (allOf p) == 0)=in3 m 0 (allOf p):=by
 rw [zeQ m _ hm,zc9];have hn:(BitVec.ofInt 64 m &&& BitVec.ofInt 64 (allOf p)).toNat=(BitVec.ofInt 64 m).toNat % 2 ^ p:=by
  rw [BitVec.toNat_and,zj4 p hp,Nat.and_two_pow_sub_one_eq_mod]
 have e2:((BitVec.ofInt 64 m &&& BitVec.ofInt 64 (allOf p)).toInt=m)↔(BitVec.ofInt 64 m &&& BitVec.ofInt 64 (allOf p)).toNat=(BitVec.ofInt 64 m).toNat:=by
  constructor
  ·intro h
   have:(BitVec.ofInt 64 m &&& BitVec.ofInt 64 (allOf p))=BitVec.ofInt 64 m:=by
    apply BitVec.toInt_inj.1
    rw [h,zdB m hm]
   rw [this]
  ·intro h;rw [BitVec.eq_of_toNat_eq h,zdB m hm]
 rw [Bool.eq_iff_iff];simp only [beq_iff_eq];rw [e2,hn,bv_of m];obtain ⟨h64,hc,h1⟩:=ziG p hp;unfold in3 allOf;rw [hc];unfold I64 at hm;generalize (2:Nat) ^ p=q at *;simp only [Bool.and_eq_true,decide_eq_true_eq]
 constructor
 ·intro h
  have:(m % 18446744073709551616).toNat % q < q:=Nat.mod_lt _ (by omega)
  omega
 ·intro h;rw [Nat.mod_eq_of_lt (by omega)]

theorem zh6 (b m:Int) (p:Nat) (hb:I64 b) (hp:p≤6) (hm:in3 m 0 (allOf p)=true) (h:(bits .and .i64 b m == b)=true):in3 b 0 (allOf p)=true:=by
 obtain ⟨h64,hc,h1⟩:=ziG p hp;unfold in3 allOf at hm ⊢;rw [hc] at hm ⊢;generalize (2:Nat) ^ p=q at *;simp only [Bool.and_eq_true,decide_eq_true_eq,beq_iff_eq] at *;have hmI:I64 m:=by unfold I64; omega
 rw [zc9] at h;have e:(BitVec.ofInt 64 b &&& BitVec.ofInt 64 m)=BitVec.ofInt 64 b:=by
  apply BitVec.toInt_inj.1
  rw [h,zdB b hb]
 have e':=congrArg BitVec.toNat e;rw [BitVec.toNat_and,bv_of b,bv_of m] at e'
 have:(b % 18446744073709551616).toNat &&& (m % 18446744073709551616).toNat≤(m % 18446744073709551616).toNat:=Nat.and_le_right
 unfold I64 at hb;omega

theorem ziX (r:VR) (p:Nat) (hr:r.Rng) (hp:p≤6):(in3 r.i 1 99 && (bits .andNot .i64 r.m (allOf p) == 0) && (bits .andNot .i64 r.b r.m == 0))=zbj (allOf p) r:=by
 rw [zgq r.m p hr.2.1 hp,zeQ r.b r.m hr.2.2];unfold zbj;cases h1:in3 r.i 1 99
 ·rfl
 ·cases h2:in3 r.m 0 (allOf p)
  ·rfl
  ·cases h3:(bits .and .i64 r.b r.m == r.b)
   ·simp
   ·rw [zh6 r.b r.m p hr.2.2 hp h2 h3]
    rfl

theorem zjU (n k:Nat):n &&& 2 ^ k=(n.testBit k).toNat*2 ^ k:=by
 apply Nat.eq_of_testBit_eq
 intro j;rw [Nat.testBit_and,Nat.testBit_two_pow];by_cases h:k=j
 ·subst h;cases n.testBit k
  ·simp
  ·simp
 ·cases n.testBit k
  ·simp [h]
  ·simp [h]

theorem zi2 (n:Int) (k:Nat) (hk:k≤9) (hn:I64 n):(bits .and .i64 n (2 ^ k) != 0)=(bits .and .i64 (n / 2 ^ k) 1 == 1):=by
 have h1:I64 (n / 2 ^ k):=by
  unfold I64 at *;rcases (show k=0∨k=1∨k=2∨k=3∨k=4∨k=5∨k=6∨k=7∨k=8∨k=9 by omega) with rfl | rfl | rfl | rfl | rfl | rfl | rfl | rfl | rfl | rfl <;> simp <;> omega
 rw [zc9,zc9,bne,Bool.eq_iff_iff];simp only [Bool.not_eq_true',beq_eq_false_iff_ne,ne_eq,beq_iff_eq];rw [zfe];have a1:(BitVec.ofInt 64 (n / 2 ^ k) &&& BitVec.ofInt 64 1).toNat=(((n / 2 ^ k) % 18446744073709551616).toNat) % 2:=by
  rw [BitVec.toNat_and,bv_of _,show (BitVec.ofInt 64 1).toNat=2 ^ 1 - 1 from rfl,Nat.and_two_pow_sub_one_eq_mod]
 have a2:(BitVec.ofInt 64 n &&& BitVec.ofInt 64 (2 ^ k)).toNat=((n % 18446744073709551616).toNat.testBit k).toNat*2 ^ k:=by
  rw [BitVec.toNat_and,bv_of _,← zjU]
  congr 1
  rcases (show k=0∨k=1∨k=2∨k=3∨k=4∨k=5∨k=6∨k=7∨k=8∨k=9 by omega) with rfl | rfl | rfl | rfl | rfl | rfl | rfl | rfl | rfl | rfl <;> rfl
 have a3:((BitVec.ofInt 64 (n / 2 ^ k) &&& BitVec.ofInt 64 1).toInt=1)↔(((n / 2 ^ k) % 18446744073709551616).toNat) % 2=1:=by
  rw [← a1,BitVec.toInt_eq_toNat_cond]
  have:=(BitVec.ofInt 64 (n / 2 ^ k) &&& BitVec.ofInt 64 1).isLt
  have h2:(BitVec.ofInt 64 (n / 2 ^ k) &&& BitVec.ofInt 64 1).toNat < 2:=by rw [a1]; omega
  rw [if_pos (by omega)];omega
 have a4:((BitVec.ofInt 64 n &&& BitVec.ofInt 64 (2 ^ k))=0#64)↔(n % 18446744073709551616).toNat.testBit k=false:=by
  rw [← BitVec.toNat_inj,a2]
  have:0 < 2 ^ k:=Nat.two_pow_pos k
  cases (n % 18446744073709551616).toNat.testBit k
  ·simp
  ·simp
 rw [a3,a4,Bool.not_eq_false,Nat.testBit_eq_decide_div_mod_eq,decide_eq_true_eq];unfold I64 at hn;rcases (show k=0∨k=1∨k=2∨k=3∨k=4∨k=5∨k=6∨k=7∨k=8∨k=9 by omega) with rfl | rfl | rfl | rfl | rfl | rfl | rfl | rfl | rfl | rfl <;> simp <;> omega

section
open Go.RowKit

def PT.Rng (x:PT):Prop:=I64 x.k∧I64 x.v.r∧I64 x.v.c∧I64 x.v.h∧I64 x.v.b∧I64 x.v.p

section
open Go.ChangeShapes Go.WideShapes Go.ChangeAt
variable {H:Type} {enc:TypeId × Value→H} {P:Program} {w:World}

end

end

section
open Go.RowKit

structure BR.Rng (b:BR):Prop where
 id:I64 b.id
 name:b.name.size≤maxLen
 ports:∀x∈b.ports,x.Rng
 f:∀x∈b.f,x.Rng
 v:∀x∈b.v.rows,x.Rng
 ticks:I64 b.ticks
 parse:I64 b.parse
 word:I64 b.word
 drops:I64 b.drops
 vers:I64 b.vers

section
open Go.ChangeShapes Go.WideShapes Go.ChangeAt
variable {H:Type} {enc:TypeId × Value→H} {P:Program} {w:World}

end

end

section
open Go.RowKit

def LK.Rng (x:LK):Prop:=I64 x.a∧I64 x.p∧I64 x.b∧I64 x.q
def SY.Rng (x:SY):Prop:=I64 x.l∧I64 x.v.r∧I64 x.v.c∧I64 x.v.h∧I64 x.v.b∧I64 x.v.p

structure NV.Rng (N:NV):Prop where
 b:∀x∈N.bs,x.B.Rng
 l:∀x∈N.ls,x.Rng
 s:∀x∈N.ss,x.Rng

section
open Go.ChangeShapes Go.WideShapes Go.ChangeAt
variable {H:Type} {enc:TypeId × Value→H} {P:Program} {w:World}

def BV.zero:BV:=⟨none,0,0,none,0,0,none,0,0,none,0,0,⟨0,⟨#[]⟩,[],[],⟨[],[]⟩,0,0,0,0,0⟩⟩

end

end

def PT.zero:PT:=⟨false,0,false,⟨0,0,0,0,0⟩⟩

theorem zkB {w:World} {base g n cap:Nat} {pre post:List PT} {x y:PT} (h:w.ownsRow base 67 8 (.slice (some ⟨g,0,none⟩) n cap) n (ptF.all (pre++x::post))) :
  ((((((((w.setCell ⟨g,pre.length*8,none⟩ (.bool y.up)).setCell ⟨g,pre.length*8+1,none⟩ (.int .i64 y.k)).setCell ⟨g,pre.length*8+2,none⟩ (.bool y.has)).setCell ⟨g,pre.length*8+3,none⟩ (.int .i64 y.v.r)).setCell ⟨g,pre.length*8+4,none⟩ (.int .i64 y.v.c)).setCell ⟨g,pre.length*8+5,none⟩ (.int .i64 y.v.h)).setCell ⟨g,pre.length*8+6,none⟩ (.int .i64 y.v.b)).setCell ⟨g,pre.length*8+7,none⟩ (.int .i64 y.v.p)).ownsRow base 67 8 (.slice (some ⟨g,0,none⟩) n cap) n (ptF.all (pre++y::post)):=by
 have R0:=zO (F:=ptF) (x':=⟨y.up,x.k,x.has,⟨x.v.r,x.v.c,x.v.h,x.v.b,x.v.p⟩⟩) h 0 (.bool y.up) (by decide) rfl;have R1:=zO (F:=ptF) (x':=⟨y.up,y.k,x.has,⟨x.v.r,x.v.c,x.v.h,x.v.b,x.v.p⟩⟩) R0 1 (.int .i64 y.k) (by decide) rfl;have R2:=zO (F:=ptF) (x':=⟨y.up,y.k,y.has,⟨x.v.r,x.v.c,x.v.h,x.v.b,x.v.p⟩⟩) R1 2 (.bool y.has) (by decide) rfl;have R3:=zO (F:=ptF) (x':=⟨y.up,y.k,y.has,⟨y.v.r,x.v.c,x.v.h,x.v.b,x.v.p⟩⟩) R2 3 (.int .i64 y.v.r) (by decide) rfl;have R4:=zO (F:=ptF) (x':=⟨y.up,y.k,y.has,⟨y.v.r,y.v.c,x.v.h,x.v.b,x.v.p⟩⟩) R3 4 (.int .i64 y.v.c) (by decide) rfl;have R5:=zO (F:=ptF) (x':=⟨y.up,y.k,y.has,⟨y.v.r,y.v.c,y.v.h,x.v.b,x.v.p⟩⟩) R4 5 (.int .i64 y.v.h) (by decide) rfl;have R6:=zO (F:=ptF) (x':=⟨y.up,y.k,y.has,⟨y.v.r,y.v.c,y.v.h,y.v.b,x.v.p⟩⟩) R5 6 (.int .i64 y.v.b) (by decide) rfl;exact zO (F:=ptF) (x':=y) R6 7 (.int .i64 y.v.p) (by decide) rfl

theorem zeY {w:World} {g:Nat} (j0 j1 j2 j3 j4 j5 j6 j7:Nat) (u0 u1 u2 u3 u4 u5 u6 u7:Value):w.grownBy ((((((((w.setCell ⟨g,j0,none⟩ u0).setCell ⟨g,j1,none⟩ u1).setCell ⟨g,j2,none⟩ u2).setCell ⟨g,j3,none⟩ u3).setCell ⟨g,j4,none⟩ u4).setCell ⟨g,j5,none⟩ u5).setCell ⟨g,j6,none⟩ u6).setCell ⟨g,j7,none⟩ u7) (some g) :=
 zL (zL (zL (zL (zL (zL (zL (zn _ _) (zn _ _)) (zn _ _)) (zn _ _)) (zn _ _)) (zn _ _)) (zn _ _)) (zn _ _)

theorem zdZ {w:World} {base g n cap:Nat} {T:TypeId} {l:List PT} (h:w.ownsRow base T 8 (.slice (some ⟨g,0,none⟩) n cap) n (ptF.all l)) {i:Nat} {x:PT} (hx:l[i]?=some x) :
  (w.cell? ⟨g,i*8,none⟩=some (.bool x.up)∧w.cell? ⟨g,i*8+1,none⟩=some (.int .i64 x.k)∧w.cell? ⟨g,i*8+2,none⟩=some (.bool x.has)∧w.cell? ⟨g,i*8+3,none⟩=some (.int .i64 x.v.r)∧w.cell? ⟨g,i*8+4,none⟩=some (.int .i64 x.v.c)∧w.cell? ⟨g,i*8+5,none⟩=some (.int .i64 x.v.h)∧w.cell? ⟨g,i*8+6,none⟩=some (.int .i64 x.v.b)∧w.cell? ⟨g,i*8+7,none⟩=some (.int .i64 x.v.p)) ∧
  (w.frozen? ⟨g,i*8,none⟩=false∧w.frozen? ⟨g,i*8+1,none⟩=false∧w.frozen? ⟨g,i*8+2,none⟩=false∧w.frozen? ⟨g,i*8+3,none⟩=false∧w.frozen? ⟨g,i*8+4,none⟩=false∧w.frozen? ⟨g,i*8+5,none⟩=false∧w.frozen? ⟨g,i*8+6,none⟩=false∧w.frozen? ⟨g,i*8+7,none⟩=false):=by
 have c0:=zah (F:=ptF) h hx (j:=0) (v:=.bool x.up) rfl;have c1:=zah (F:=ptF) h hx (j:=1) (v:=.int .i64 x.k) rfl;have c2:=zah (F:=ptF) h hx (j:=2) (v:=.bool x.has) rfl;have c3:=zah (F:=ptF) h hx (j:=3) (v:=.int .i64 x.v.r) rfl;have c4:=zah (F:=ptF) h hx (j:=4) (v:=.int .i64 x.v.c) rfl;have c5:=zah (F:=ptF) h hx (j:=5) (v:=.int .i64 x.v.h) rfl;have c6:=zah (F:=ptF) h hx (j:=6) (v:=.int .i64 x.v.b) rfl;have c7:=zah (F:=ptF) h hx (j:=7) (v:=.int .i64 x.v.p) rfl;exact ⟨⟨c0.1,c1.1,c2.1,c3.1,c4.1,c5.1,c6.1,c7.1⟩,c0.2,c1.2,c2.2,c3.2,c4.2,c5.2,c6.2,c7.2⟩

def VR.zero:VR:=⟨0,0,0⟩

end Go.Proofs.YtkoekkjfcaiagaaGreat
