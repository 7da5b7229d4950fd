/-
  Packed: PtMem FdbMath FentMem VtabMath IBase IHelp VrowMem BrMem VtabAt Made VecEql PtOkS FdbSpec PtApp BrLaws PtHelp VecNums VecNear.
-/
import Derived.Test.YtcpdkcdfnpcemaaGreatPRK01
import Derived.Deep.RegionHeld3
import Derived.Deep.CutRange
import Derived.Lib.MinMax
namespace Go.Proofs.YtcpdkcdfnpcemaaGreat
set_option maxRecDepth 100000
set_option maxHeartbeats 16000000
open Go.RowKit

structure PT where
 up:Bool
 k:Int
 has:Bool
 v:VD

def ptF:Flat PT where
 k:=8
 cs:=fun x=>[.bool x.up,.int .i64 x.k,.bool x.has,.int .i64 x.v.r,.int .i64 x.v.c,.int .i64 x.v.h,.int .i64 x.v.b,.int .i64 x.v.p]
 len:=fun _=>rfl
 pos:=by decide
 one:=fun _ v hv=>by
  simp only [List.mem_cons,List.not_mem_nil,or_false] at hv;rcases hv with rfl | rfl | rfl | rfl | rfl | rfl | rfl | rfl <;> rfl

theorem pt_at {w:World} {ao:Option Addr} {len cap:Nat} {l:List PT} (h:GRow ptF w ao len cap l) (i:Nat) (hi:i < len):∃(x:PT) (b off:Nat),l[i]? = some x∧ao=some ⟨b,off,none⟩ ∧
  w.cell? ⟨b,off+i*8,none⟩=some (.bool x.up)∧w.cell? ⟨b,off+i*8+1,none⟩=some (.int .i64 x.k)∧w.cell? ⟨b,off+i*8+2,none⟩=some (.bool x.has) ∧
  w.cell? ⟨b,off+i*8+3,none⟩=some (.int .i64 x.v.r)∧w.cell? ⟨b,off+i*8+4,none⟩=some (.int .i64 x.v.c)∧w.cell? ⟨b,off+i*8+5,none⟩=some (.int .i64 x.v.h)∧w.cell? ⟨b,off+i*8+6,none⟩=some (.int .i64 x.v.b)∧w.cell? ⟨b,off+i*8+7,none⟩=some (.int .i64 x.v.p):=by
 obtain ⟨x,b,off,hx,ha,hc⟩:=h.at i hi;exact ⟨x,b,off,hx,ha,hc 0 _ rfl,hc 1 _ rfl,hc 2 _ rfl,hc 3 _ rfl,hc 4 _ rfl,hc 5 _ rfl,hc 6 _ rfl,hc 7 _ rfl⟩

def zd0 (v:VD):Bool:=v.r == 0 && (v.c == 0 && (v.h == 0 && (v.b == 0 && v.p == 0)))
def okVd (v:VD):Bool:=okVc v.r v.c v.h v.b v.p
def ptOk (x:PT):Bool:=(decide (1≤x.k) && decide (x.k≤1000)) && ((x.up || !x.has) && (if x.has then okVd x.v else zd0 x.v))

def stepV (v:VD) (k:Int):VD:=⟨v.r,v.c+k,v.h+1,v.b,v.p⟩
def zc9 (v:VD) (k:Int):Bool:=zbf v.r v.c v.h v.b v.p k
def lessV (u v:VD):Bool:=zaM u.r u.c u.b u.p v.r v.c v.b v.p

def offers (id:Int) (x:PT):Bool:=x.up && (x.has && (zc9 x.v x.k && decide (x.v.r < id)))

def zbs (id:Int) (s:Option (VD × Nat)) (i:Nat) (x:PT):Option (VD × Nat) :=
 if offers id x=true then
  match s with
  | none=>some (stepV x.v x.k,i)
  | some (f,j)=>if lessV (stepV x.v x.k) f=true then some (stepV x.v x.k,i) else some (f,j)
 else s
def zbq (id:Int) (l:List PT):Nat→Option (VD × Nat)
 | 0=>none
 | k+1=>match l[k]? with
  | some x=>zbs id (zbq id l k) k x
  | none=>zbq id l k
def zK (id:Int) (l:List PT):Option (VD × Nat):=zbq id l l.length

def bestV (id:Int):Option (VD × Nat)→VD
 | none=>⟨id,0,0,id,0⟩
 | some (f,_)=>⟨f.r,f.c,f.h,id,0⟩
def bestP:Option (VD × Nat)→Int
 | none => -1
 | some (_,j)=>(j:Int)
def fromV:Option (VD × Nat)→VD
 | none=>⟨0,0,0,0,0⟩
 | some (f,_)=>f

theorem zdq {id:Int} {l:List PT} {k:Nat} {x:PT} (h:l[k]? = some x):zbq id l (k+1)=zbs id (zbq id l k) k x:=by
 rw [zbq,h]

theorem zbh {id:Int} {s:Option (VD × Nat)} {i:Nat} {x:PT} (h:offers id x=false):zbs id s i x=s:=by
 unfold zbs;rw [if_neg (by simp [h])]

def sayV (id:Int) (l:List PT) (port:Int):VD:=⟨(bestV id (zK id l)).r,(bestV id (zK id l)).c,(bestV id (zK id l)).h,id,port⟩

def zcS (id:Int) (l:List PT) (i:Nat) (x:PT):Int :=
 if x.up=false then 4
 else if bestP (zK id l)=(i:Int) then 1
 else if (!x.has || lessV (sayV id l i) x.v)=true then 2
 else 3
def zaC (id:Int) (l:List PT) (port:Int):Int :=
 if (decide (0≤port) && decide (port≤(l.length:Int) - 1))=true then
  match l[port.toNat]? with
  | some x=>zcS id l port.toNat x
  | none=>4
 else 4

structure FE where
 t:Int
 m:Int
 p:Int
 a:Int
 s:Bool

def entOk (e:FE):Bool :=
 (decide (1≤e.t) && decide (e.t≤99)) && ((decide (1≤e.m) && decide (e.m≤9999)) && ((decide (0≤e.p) && decide (e.p≤7)) && ((decide (0≤e.a) && decide (e.a≤4)) && (!e.s || (e.a == 0)))))

theorem zdw (e:FE):entOk e=true↔(1≤e.t∧e.t≤99)∧(1≤e.m∧e.m≤9999)∧(0≤e.p∧e.p≤7)∧(0≤e.a∧e.a≤4)∧(e.s=true→e.a=0):=by
 unfold entOk;cases e.s <;> simp

def ahead (e:FE) (t m:Int):Bool:=if (e.t != t)=true then decide (e.t < t) else decide (e.m < m)

def both (e:FE) (t m:Int):Bool:=(e.t == t) && (e.m == m)

theorem zbl {e:FE} {t m:Int}:both e t m=true↔e.t=t∧e.m=m:=by simp [both]
theorem zaZ {e:FE} {t m:Int}:both e t m=false↔¬(e.t=t∧e.m=m):=by
 rw [← zbl]; simp

theorem zaO {e:FE} {t m:Int}:ahead e t m=true↔e.t < t∨(e.t=t∧e.m < m):=by
 unfold ahead;by_cases h:e.t=t
 ·simp [h]
 ·simp [h]
theorem zbR {e:FE} {t m:Int}:ahead e t m=false↔¬(e.t < t∨(e.t=t∧e.m < m)):=by
 rw [← zaO]; simp

def rises:List FE→Bool
 | []=>true
 | [e]=>entOk e
 | e::f::r=>entOk e && (ahead e f.t f.m && rises (f::r))

def fdbOk (l:List FE):Bool:=rises l && decide ((l.length:Int)≤12)

def Sorted (l:List FE):Prop:=(∀e∈l,entOk e=true)∧l.Pairwise (fun e f=>ahead e f.t f.m=true)

theorem zfv {e f g:FE} (h1:ahead e f.t f.m=true) (h2:ahead f g.t g.m=true):ahead e g.t g.m=true:=by
 rw [zaO] at *;omega

theorem zc7:∀(l:List FE),rises l=true↔Sorted l
 | []=>by simp [rises,Sorted]
 | [e]=>by simp [rises,Sorted]
 | e::f::r=>by
  have ih:=zc7 (f::r);unfold rises;simp only [Bool.and_eq_true,ih]
  constructor
  ·rintro ⟨h1,h2,h3,h4⟩;refine ⟨?_, ?_⟩
   ·intro x hx;rcases List.mem_cons.1 hx with rfl | hx
    ·exact h1
    ·exact h3 x hx
   ·refine List.pairwise_cons.2 ⟨?_,h4⟩;intro x hx;rcases List.mem_cons.1 hx with rfl | hx
    ·exact h2
    ·exact zfv h2 ((List.pairwise_cons.1 h4).1 x hx)
  ·rintro ⟨h1,h2⟩;obtain ⟨h3,h4⟩:=List.pairwise_cons.1 h2;exact ⟨h1 e (by simp),h3 f (by simp),fun x hx=>h1 x (List.mem_cons_of_mem _ hx),h4⟩

theorem zaW (l:List FE):fdbOk l=true↔Sorted l∧l.length≤12:=by
 unfold fdbOk;rw [Bool.and_eq_true,zc7,decide_eq_true_eq]
 constructor <;> rintro ⟨h1,h2⟩ <;> exact ⟨h1,by omega⟩

theorem zbI {e:FE} {l:List FE} (h:Sorted (e::l)):Sorted l:=⟨fun x hx=>h.1 x (List.mem_cons_of_mem _ hx),(List.pairwise_cons.1 h.2).2⟩
theorem zb6 {e:FE} {l:List FE} (h:Sorted (e::l)):entOk e=true∧∀x∈l,ahead e x.t x.m=true:=⟨h.1 e (by simp),(List.pairwise_cons.1 h.2).1⟩

def lookE (l:List FE) (t m:Int):Option FE:=l.find? (fun e=>both e t m)

theorem ze3 {l:List FE} {t m:Int}:lookE l t m=none↔∀e∈l,¬(e.t=t∧e.m=m):=by
 unfold lookE;rw [List.find?_eq_none]
 constructor
 ·intro h e he hb;exact h e he (zbl.2 hb)
 ·intro h e he hb;exact h e he (zbl.1 hb)

def putGo (e:FE):Bool→List FE→List FE
 | d,[]=>if d=true then [] else [e]
 | d,x::r =>
  if (!d && !ahead x e.t e.m)=true then e::(if both x e.t e.m=true then putGo e true r else x::putGo e true r)
  else if both x e.t e.m=true then putGo e d r else x::putGo e d r

def putF8 (e:FE) (l:List FE):List FE:=putGo e false l

theorem ze9 {e:FE} {l:List FE} (h:∀x∈l,ahead e x.t x.m=true):putGo e true l=l:=by
 induction l with
 | nil=>rfl
 | cons x r ih =>
  unfold putGo;have hx:=h x (by simp);rw [zaO] at hx;rw [zaZ.2 (by omega)]
  simp [ih (fun y hy=>h y (List.mem_cons_of_mem _ hy))]

def insF (e:FE):List FE→List FE
 | []=>[e]
 | x::r=>if ahead x e.t e.m=true then x::insF e r else if both x e.t e.m=true then e::r else e::x::r

theorem zch {e:FE} {l:List FE} (h:Sorted l):putF8 e l=insF e l:=by
 unfold putF8
 induction l with
 | nil=>rfl
 | cons x r ih =>
  obtain ⟨_,hx⟩:=zb6 h;unfold putGo insF;cases ha:ahead x e.t e.m
  ·have hb:∀y∈r,ahead e y.t y.m=true:=by
    intro y hy
    have:=hx y hy
    rw [zaO] at *;rw [zbR] at ha;omega
   rw [ze9 hb]
   simp
   split <;> rfl
  ·have ha':=ha;rw [zaO] at ha';rw [zaZ.2 (by omega)]
   simp [ih (zbI h)]

theorem zev {e:FE} {l:List FE} (h:Sorted l) {x:FE}:x∈insF e l↔x=e∨(x∈l∧¬(x.t=e.t∧x.m=e.m)):=by
 induction l with
 | nil=>simp [insF]
 | cons y r ih =>
  obtain ⟨_,hy⟩:=zb6 h;unfold insF;cases ha:ahead y e.t e.m
  ·have hr:∀z∈r,¬(z.t=e.t∧z.m=e.m):=by
    intro z hz
    have:=hy z hz
    rw [zaO] at this;rw [zbR] at ha;omega
   cases hb:both y e.t e.m
   ·rw [zaZ] at hb;simp only [Bool.false_eq_true,if_false,List.mem_cons]
    constructor
    ·rintro (rfl | rfl | hx)
     ·exact .inl rfl
     ·exact .inr ⟨.inl rfl,hb⟩
     ·exact .inr ⟨.inr hx,hr x hx⟩
    ·rintro (rfl | ⟨rfl | hx,_⟩)
     ·exact .inl rfl
     ·exact .inr (.inl rfl)
     ·exact .inr (.inr hx)
   ·rw [zbl] at hb;simp only [Bool.false_eq_true,if_false,if_true,List.mem_cons]
    constructor
    ·rintro (rfl | hx)
     ·exact .inl rfl
     ·exact .inr ⟨.inr hx,hr x hx⟩
    ·rintro (rfl | ⟨rfl | hx,hn⟩)
     ·exact .inl rfl
     ·exact absurd hb hn
     ·exact .inr hx
  ·simp only [if_true,List.mem_cons,ih (zbI h)];have hb:¬(y.t=e.t∧y.m=e.m):=by rw [zaO] at ha; omega
   constructor
   ·rintro (rfl | rfl | ⟨hx,hn⟩)
    ·exact .inr ⟨.inl rfl,hb⟩
    ·exact .inl rfl
    ·exact .inr ⟨.inr hx,hn⟩
   ·rintro (rfl | ⟨rfl | hx,hn⟩)
    ·exact .inr (.inl rfl)
    ·exact .inl rfl
    ·exact .inr (.inr ⟨hx,hn⟩)

theorem zdS {e:FE} (he:entOk e=true) {l:List FE} (h:Sorted l):Sorted (insF e l):=by
 refine ⟨?_, ?_⟩
 ·intro x hx;rcases (zev h).1 hx with rfl | ⟨hx,_⟩
  ·exact he
  ·exact h.1 x hx
 ·induction l with
  | nil=>simp [insF]
  | cons y r ih =>
   obtain ⟨_,hy⟩:=zb6 h;unfold insF;cases ha:ahead y e.t e.m
   ·have hr:∀z∈r,ahead e z.t z.m=true:=by
     intro z hz
     have:=hy z hz
     rw [zaO] at *;rw [zbR] at ha;omega
    cases hb:both y e.t e.m
    ·simp only [Bool.false_eq_true,if_false];refine List.pairwise_cons.2 ⟨?_,h.2⟩;intro z hz;rcases List.mem_cons.1 hz with rfl | hz
     ·rw [zbR] at ha;rw [zaZ] at hb;rw [zaO];omega
     ·exact hr z hz
    ·simp only [Bool.false_eq_true,if_false,if_true];exact List.pairwise_cons.2 ⟨hr,(List.pairwise_cons.1 h.2).2⟩
   ·simp only [if_true];refine List.pairwise_cons.2 ⟨?_,ih (zbI h)⟩;intro z hz;rcases (zev (zbI h)).1 hz with rfl | ⟨hz,_⟩
    ·exact ha
    ·exact hy z hz

theorem zdI {e:FE} {l:List FE} (h:Sorted l):(insF e l).length=if (lookE l e.t e.m).isSome=true then l.length else l.length+1:=by
 induction l with
 | nil=>rfl
 | cons y r ih =>
  obtain ⟨_,hy⟩:=zb6 h;unfold insF lookE;rw [List.find?_cons];cases ha:ahead y e.t e.m
  ·cases hb:both y e.t e.m
   ·have hr:lookE r e.t e.m=none:=ze3.2 (by
     intro z hz
     have:=hy z hz
     rw [zaO] at this;rw [zbR] at ha;omega)
    unfold lookE at hr
    simp [hr]
   ·simp
  ·have hb:both y e.t e.m=false:=zaZ.2 (by rw [zaO] at ha; omega);rw [hb];have ih:=ih (zbI h);unfold lookE at ih;simp only [if_true,List.length_cons,ih]
   split <;> rfl

def atF (l:List FE) (t m:Int):Int :=
 match l.findIdx? (fun e=>both e t m) with
 | some i=>i
 | none => -1

def zcH (l:List FE) (t m p:Int):Bool :=
 fdbOk l && (entOk ⟨t,m,p,0,false⟩ && (match lookE l t m with | some e => !e.s | none=>decide (l.length < 12)))
def zbo (l:List FE) (t m p:Int):List FE:=if zcH l t m p=true then putF8 ⟨t,m,p,0,false⟩ l else l

def zea (l:List FE) (t m p:Int):Bool :=
 fdbOk l && (entOk ⟨t,m,p,0,true⟩ && ((lookE l t m).isSome || decide (l.length < 12)))
def setF (l:List FE) (t m p:Int):List FE:=if zea l t m p=true then putF8 ⟨t,m,p,0,true⟩ l else l

theorem zin {l:List FE} (h:fdbOk l=true) (t m p:Int):fdbOk (zbo l t m p)=true:=by
 unfold zbo
 split
 ·rename_i hc
  unfold zcH at hc;simp only [Bool.and_eq_true] at hc;obtain ⟨_,he,hm⟩:=hc;obtain ⟨hs,hl⟩:=(zaW l).1 h;rw [zch hs,zaW];refine ⟨zdS he hs, ?_⟩;rw [zdI hs];cases hk:lookE l t m with
  | some e=>simp [hl]
  | none =>
   rw [hk] at hm
   simp at hm
   simp
   omega
 ·exact h

theorem zjt {l:List FE} (h:fdbOk l=true) (t m p:Int):fdbOk (setF l t m p)=true:=by
 unfold setF
 split
 ·rename_i hc
  unfold zea at hc;simp only [Bool.and_eq_true] at hc;obtain ⟨_,he,hm⟩:=hc;obtain ⟨hs,hl⟩:=(zaW l).1 h;rw [zch hs,zaW];refine ⟨zdS he hs, ?_⟩;rw [zdI hs];cases hk:lookE l t m with
  | some e=>simp [hl]
  | none =>
   rw [hk] at hm
   simp at hm
   simp
   omega
 ·exact h

section
open Go.RowKit

def fentF:Flat FE where
 k:=5
 cs:=fun e=>[.int .i64 e.t,.int .i64 e.m,.int .i64 e.p,.int .i64 e.a,.bool e.s]
 len:=fun _=>rfl
 pos:=by decide
 one:=fun _ v hv=>by
  simp only [List.mem_cons,List.not_mem_nil,or_false] at hv;rcases hv with rfl | rfl | rfl | rfl | rfl <;> rfl

def FE.Rng (e:FE):Prop:=(-9223372036854775808≤e.t∧e.t≤9223372036854775807)∧(-9223372036854775808≤e.m∧e.m≤9223372036854775807)∧(-9223372036854775808≤e.p∧e.p≤9223372036854775807)∧(-9223372036854775808≤e.a∧e.a≤9223372036854775807)

theorem zbi {w:World} {ao:Option Addr} {len cap:Nat} {l:List FE} (h:GRow fentF w ao len cap l) (i:Nat) (hi:i < len):∃(x:FE) (b off:Nat),l[i]? = some x∧ao=some ⟨b,off,none⟩ ∧
  w.cell? ⟨b,off+i*5,none⟩=some (.int .i64 x.t)∧w.cell? ⟨b,off+i*5+1,none⟩=some (.int .i64 x.m)∧w.cell? ⟨b,off+i*5+2,none⟩=some (.int .i64 x.p)∧w.cell? ⟨b,off+i*5+3,none⟩=some (.int .i64 x.a)∧w.cell? ⟨b,off+i*5+4,none⟩=some (.bool x.s):=by
 obtain ⟨x,b,off,hx,ha,hc⟩:=h.at i hi;exact ⟨x,b,off,hx,ha,hc 0 _ rfl,hc 1 _ rfl,hc 2 _ rfl,hc 3 _ rfl,hc 4 _ rfl⟩

section
open Go.ChangeShapes Go.WideShapes Go.ChangeAt
variable {H:Type} {enc:TypeId × Value→H} {P:Program} {w:World}

end

end

structure VR where
 i:Int
 m:Int
 b:Int

structure VT where
 rows:List VR
 own:List Int

def zI (l:List VR) (id:Int):Option Nat:=l.findIdx? (fun r=>r.i == id)
def rowAt (l:List VR) (id:Int):Int:=match zI l id with
 | some k=>k
 | none => -1

def in3 (x lo hi:Int):Bool:=decide (lo≤x) && decide (x≤hi)
def allOf (p:Nat):Int:=2 ^ p - 1

def zaY (all:Int) (r:VR):Bool:=in3 r.i 1 99 && in3 r.m 0 all && in3 r.b 0 all && (bits .and .i64 r.b r.m == r.b)

def vrises:List VR→Bool
 | []=>true
 | [_]=>true
 | e::f::r=>decide (e.i < f.i) && vrises (f::r)

def zO (v:VT) (ports:Int):Bool :=
 in3 ports 1 6 && ((v.own.length:Int) == ports) && decide (v.rows.length≤6) && v.rows.all (zaY (allOf ports.toNat)) && vrises v.rows && v.own.all (fun p=>(zI v.rows p).isSome)

def zy (l:List VR) (r:VR):Bool→List VR
 | d=>match l with
  | []=>if d then [] else [r]
  | x::t=>(if !d && decide (r.i≤x.i) then [r] else [])++(if x.i != r.i then [x] else [])++zy t r (d || decide (r.i≤x.i))

theorem zff {l:List VR} {id:Int} {k:Nat} {x:VR} (hno:∀j y,j < k→l[j]? = some y→(y.i == id)=false) (hx:l[k]? = some x) (he:(x.i == id)=true):zI l id=some k:=by
 obtain ⟨hk,rfl⟩:=List.getElem?_eq_some_iff.1 hx;refine List.findIdx?_eq_some_iff_getElem.2 ⟨hk,he,fun j hj => ?_⟩
 have:=hno j l[j] hj (List.getElem?_eq_getElem (by omega))
 simp [this]

theorem zfN {l:List VR} {id:Int} (hno:∀(j:Nat) (y:VR),l[j]? = some y→(y.i == id)=false):zI l id=none:=by
 refine List.findIdx?_eq_none_iff.2 fun x hx => ?_
 obtain ⟨j,hj⟩:=List.mem_iff_getElem?.1 hx;exact hno j x hj

theorem zcF {l:List VR} {id:Int} {k:Nat} (h:zI l id=some k):∃x,l[k]? = some x∧(x.i == id)=true∧l.find? (fun r=>r.i == id)=some x:=by
 obtain ⟨hk,he,hno⟩:=List.findIdx?_eq_some_iff_getElem.1 h;refine ⟨l[k],List.getElem?_eq_getElem hk,he, ?_⟩;refine List.find?_eq_some_iff_getElem.2 ⟨he,k,hk,rfl,fun j hj => ?_⟩
 have:=hno j hj
 simpa using this

theorem zfM {l:List VR} {id:Int} (h:zI l id=none):l.find? (fun r=>r.i == id)=none:=by
 refine List.find?_eq_none.2 fun x hx => ?_
 have:=List.findIdx?_eq_none_iff.1 h x hx
 simp [this]

theorem zeF {l:List VR} {id:Int} {k:Nat} {x:VR} (hno:∀j y,j < k→l[j]? = some y→(y.i == id)=false) (hx:l[k]? = some x) (he:(x.i == id)=false):∀j y,j < k+1→l[j]? = some y→(y.i == id)=false:=by
 intro j y hj hy;by_cases e:j=k
 ·subst e;rw [hx] at hy;cases hy;exact he
 ·exact hno j y (by omega) hy

theorem zcE {l:List VR} {id:Int} {k:Nat} {x:VR} (hno:∀j y,j < k→l[j]? = some y→(y.i == id)=false) (hx:l[k]? = some x) (he:(x.i == id)=true):rowAt l id=k:=by
 unfold rowAt;rw [zff hno hx he]
theorem zc1 {l:List VR} {id:Int} (hno:∀(j:Nat) (y:VR),l[j]? = some y→(y.i == id)=false):rowAt l id = -1:=by
 unfold rowAt;rw [zfN hno]

def cI (zs:List Int):List Value:=zs.map (Value.int .i64)

def I64s (zs:List Int):Prop:=∀z∈zs,-9223372036854775808≤z∧z≤9223372036854775807

theorem zdr (zs:List Int):(cI zs).length=zs.length:=by simp [cI]
theorem zgZ (a b:List Int):cI (a++b)=cI a++cI b:=by simp [cI]
theorem ziT (zs:List Int) (j:Nat) (h:j < zs.length):(cI zs)[j]? = some (.int .i64 (zs.getD j 0)):=by
 simp [cI,List.getElem?_map,List.getElem?_eq_getElem h]

structure IRow (w:World) (ao:Option Addr) (len cap:Nat) (zs:List Int):Prop where
 size:zs.length=len
 le:len≤cap
 top:cap≤maxLen
 nil:ao=none→cap=0
 byte:I64s zs
 cell:len=0∨∃b off,ao=some ⟨b,off,none⟩∧∀i,i < len→w.cell? ⟨b,off+i,none⟩=some (.int .i64 (zs.getD i 0))

theorem IRow.below {w w':World} {ao:Option Addr} {len cap:Nat} {zs:List Int} (h:IRow w ao len cap zs) (hb:Below w.heap.size w w'):IRow w' ao len cap zs where
 size:=h.size
 le:=h.le
 top:=h.top
 nil:=h.nil
 byte:=h.byte
 cell:=by
  rcases h.cell with h0 | ⟨b,off,ha,hc⟩
  ·exact .inl h0
  ·exact .inr ⟨b,off,ha,fun i hi=>by rw [hb.cell (zu (hc i hi))]; exact hc i hi⟩

theorem zcD {w:World} {base:Nat} {v:Value} {n:Nat} {zs:List Int} (h:w.ownsRow base 3 1 v n (cI zs)) (hz:I64s zs) :
  ∃ao cap,v=.slice ao n cap∧IRow w ao n cap zs:=by
 have hl:zs.length=n:=by have:=h.1; simpa [cI] using this
 rcases h.2 with ⟨rfl,rfl⟩ | ⟨g,cap,cur,rfl,hg,hh,h1,h2,h3,h4⟩
 ·exact ⟨none,0,rfl,hl,Nat.le_refl _,Nat.zero_le _,fun _=>rfl,hz,.inl rfl⟩
 ·refine ⟨_,cap,rfl,hl,h1,h2,(by intro h; cases h),hz,.inr ⟨g,0,rfl,fun i hi => ?_⟩⟩
  have:=h.cellAt i (by omega)
  rw [Nat.zero_add,this,ziT zs i (by omega)]

theorem Tryz.infoI64:(Tryz.prog.info? 3).map (fun i=>(i.zero,i.size,i.bytes))=some (some (.int .i64 0),1,8):=by kernel_rfl

theorem IRow.news {w:World} {ao:Option Addr} {len cap:Nat} {zs:List Int} (h:IRow w ao len cap zs) (ad:Addr) (ha:ao=some ad) (j:Nat) (u:Value) (hu:(cI zs)[j]? = some u):w.cell? (ad.add j)=some u:=by
 have hj:j < zs.length:=by
  by_cases hlt:j < zs.length
  ·exact hlt
  ·rw [List.getElem?_eq_none (by rw [zdr]; omega)] at hu;cases hu
 rw [ziT _ _ hj] at hu;rcases h.cell with h0 | ⟨b,off,hb,hc⟩
 ·have:=h.size; omega
 ·rw [ha] at hb;cases hb;rw [← hu];rw [zdf]; exact hc j (by have:=h.size; omega)

theorem IRow.none_zero {w:World} {ao:Option Addr} {len cap:Nat} {zs:List Int} (h:IRow w ao len cap zs) (ha:ao=none):len=0∧cap=0:=by
 have:=h.nil ha; have:=h.le; omega

theorem zgl (zs:List Int) (u:Value) (h:u∈cI zs):u.oneCell'=true:=ints_oneCell .i64 zs u h

theorem zdC {a b:List Int} (ha:I64s a) (hb:I64s b):I64s (a++b):=by
 intro z hz;rcases List.mem_append.1 hz with h | h
 ·exact ha z h
 ·exact hb z h

theorem zcY {P:Program} (w:World) {ops:Array Oper} {rest:List Oper} {o:Oper} {a:Act} {Q:Exit→Act→World→Prop} (hgd:o.guard=none)
  (s x:Operand) (t:TypeId) (ho:o.op=Op.call { callee:=Callee.builtin Builtin.append,args:=#[s,x],argTypes:=#[t,t] }) (base:Nat)
  (ht:P.underlying t=some (TypeDesc.slice 3)) (hinfo:(P.info? 3).map (fun i=>(i.zero,i.size,i.bytes))=some (some (.int .i64 0),1,8))
  (v:Value) (n:Nat) (xs:List Int) (hs:a.eval s=v) (hown:w.ownsRow base 3 1 v n (cI xs)) (hxs:I64s xs) (ao:Option Addr) (m c:Nat) (zs:List Int)
  (hx:a.eval x=.slice ao m c) (hrow:IRow w ao m c zs) (hsm:(n+m)*8≤140737488355328) (hbase:base≤w.heap.size)
  (h:∀ao' cap' w',w'.ownsRow base 3 1 (.slice ao' (n+m) cap') (n+m) (cI (xs++zs))→IRow w' ao' (n+m) cap' (xs++zs)→Below base w w'→wpList P ops Q rest (a.put o.dst (.slice ao' (n+m) cap')) w') :
  wpList P ops Q (o::rest) a w:=by
 obtain ⟨i0,hi,hz0,hz1,hz2⟩:=info_parts hinfo;have hby:=zdC hxs hrow.byte;rcases ao with _ | ad
 ·obtain ⟨rfl,rfl⟩:=hrow.none_zero rfl;have hz:zs=[]:=List.eq_nil_of_length_eq_zero hrow.size;subst hz;refine wpList_append_own_none hgd s x t ho base 3 i0 1 ht hi v n (cI xs) hs hown hx ?_;obtain ⟨ao',cap',rfl,hr⟩:=zcD hown hxs
  have:=h ao' cap' w (by simpa using hown) (by simpa using hr) (Below.refl _ _)
  simpa using this
 ·refine wpList_append_own w hgd s x t ho base 3 i0 (.int .i64 0) 1 8 ht hi hz0 hz1 hz2 rfl (by decide) v n (cI xs) hs hown ad m c (cI zs) hx (by rw [zdr,hrow.size]; omega) (fun j u hu=>hrow.news ad rfl j u hu) (zgl zs) (by unfold maxLen; omega) (by omega) hbase ?_;intro v' w' how hgr _;rw [← zgZ] at how;have hlt:=hown.lt;obtain ⟨ao',cap',rfl,hr⟩:=zcD how hby;exact h ao' cap' w' how hr ((Below.refl _ _).grown hgr hbase (by intro k hk; exact (hlt k hk).1))

theorem zic {zs:List Int} (h:I64s zs) (j:Nat) : -9223372036854775808≤zs.getD j 0∧zs.getD j 0≤9223372036854775807:=by
 by_cases hj:j < zs.length
 ·rw [List.getD_eq_getElem?_getD,List.getElem?_eq_getElem hj]; exact h _ (List.getElem_mem hj)
 ·rw [List.getD_eq_getElem?_getD,List.getElem?_eq_none (by omega)]; simp

theorem IRow.at {w:World} {ao:Option Addr} {len cap:Nat} {zs:List Int} (h:IRow w ao len cap zs) (hp:0 < len):∃b off,ao=some ⟨b,off,none⟩∧∀i,i < len→w.cell? ⟨b,off+i,none⟩=some (.int .i64 (zs.getD i 0)):=by
 rcases h.cell with h0 | h0
 ·omega
 ·exact h0

theorem I64s.at {zs:List Int} (h:I64s zs) (j:Nat) : -9223372036854775808≤zs.getD j 0∧zs.getD j 0≤9223372036854775807:=zic h j

theorem zil (w:World) (x:Int) (h : -9223372036854775808≤x∧x≤9223372036854775807):IRow (w.alloc (.cells #[.int .i64 x] 3)) (some ⟨w.heap.size,0,none⟩) 1 1 [x] where
 size:=rfl
 le:=Nat.le_refl _
 top:=by unfold maxLen; omega
 nil:=by intro h; cases h
 byte:=by intro z hz; simp at hz; subst hz; exact h
 cell:=.inr ⟨w.heap.size,0,rfl,fun i hi=>by
  obtain rfl:i=0:=by omega
  simp⟩

theorem zV {w:World} {base:Nat} {ao:Option Addr} {n cap:Nat} {zs:List Int} (h:w.ownsRow base 3 1 (.slice ao n cap) n (cI zs)) (hz:I64s zs):IRow w ao n cap zs:=by
 obtain ⟨ao',cap',e,hr⟩:=zcD h hz;cases e;exact hr

def vrowF:Flat VR where
 k:=3
 cs:=fun e=>[.int .i64 e.i,.int .i64 e.m,.int .i64 e.b]
 len:=fun _=>rfl
 pos:=by decide
 one:=fun _ v hv=>by
  simp only [List.mem_cons,List.not_mem_nil,or_false] at hv;rcases hv with rfl | rfl | rfl <;> rfl

theorem zaI {w:World} {ao:Option Addr} {len cap:Nat} {l:List VR} (h:GRow vrowF w ao len cap l) (i:Nat) (hi:i < len):∃(x:VR) (b off:Nat),l[i]? = some x∧ao=some ⟨b,off,none⟩ ∧
  w.cell? ⟨b,off+i*3,none⟩=some (.int .i64 x.i)∧w.cell? ⟨b,off+i*3+1,none⟩=some (.int .i64 x.m)∧w.cell? ⟨b,off+i*3+2,none⟩=some (.int .i64 x.b):=by
 obtain ⟨x,b,off,hx,ha,hc⟩:=h.at i hi;exact ⟨x,b,off,hx,ha,hc 0 _ rfl,hc 1 _ rfl,hc 2 _ rfl⟩

structure VTab (w:World) (a:Option Addr) (n c:Nat) (o:Option Addr) (p q:Nat) (v:VT):Prop where
 rows:GRow vrowF w a n c v.rows
 own:IRow w o p q v.own

theorem VTab.below {w w':World} {a:Option Addr} {n c:Nat} {o:Option Addr} {p q:Nat} {v:VT} (h:VTab w a n c o p q v) (hb:Below w.heap.size w w'):VTab w' a n c o p q v :=
 ⟨h.rows.below hb,h.own.below hb⟩

structure BR where
 id:Int
 name:ByteArray
 ports:List PT
 f:List FE
 v:VT
 ticks:Int
 parse:Int
 word:Int
 drops:Int
 vers:Int

def in1m (x:Int):Bool:=decide (0≤x) && decide (x≤1000000)
def zaj (a b c d e:Int):Bool:=in1m a && (in1m b && (in1m c && (in1m d && in1m e)))
def zG (b:BR):Bool :=
 b.ports.all ptOk && (in3 b.id 1 99 && (decide ((b.name.size:Int)≤10) && (in3 (b.ports.length:Int) 1 6 && (fdbOk b.f && (zO b.v (b.ports.length:Int) && zaj b.ticks b.parse b.word b.drops b.vers)))))

structure BrRow (w:World) (a:Option Addr) (n c:Nat) (fa:Option Addr) (fn fc:Nat) (ra:Option Addr) (rn rc:Nat) (oa:Option Addr) (on oc:Nat) (b:BR):Prop where
 ports:GRow ptF w a n c b.ports
 f:GRow fentF w fa fn fc b.f
 v:VTab w ra rn rc oa on oc b.v

theorem BrRow.below {w w':World} {a:Option Addr} {n c:Nat} {fa:Option Addr} {fn fc:Nat} {ra:Option Addr} {rn rc:Nat} {oa:Option Addr} {on oc:Nat} {b:BR} (h:BrRow w a n c fa fn fc ra rn rc oa on oc b) (hb:Below w.heap.size w w'):BrRow w' a n c fa fn fc ra rn rc oa on oc b :=
 ⟨h.ports.below hb,h.f.below hb,h.v.below hb⟩

theorem zbe (a:Option Addr) (n c:Nat) (l:List VR) (o:Option Addr) (p q:Nat) (id:Int) (w:World) (h:GRow vrowF w a n c l) :
  Calls Tryz.prog 134 #[.agg #[.slice a n c,.slice o p q],.int .i64 id] w fun r w'=>r=.returned (.int .i64 (rowAt l id))∧Below w.heap.size w w':=by
 have hle:=h.le;have htop:=h.top;unfold maxLen at htop;have hsz:=h.size;have hW:Below w.heap.size w (w.alloc (Obj.cells #[Value.slice a n c,Value.slice o p q] 29)):=zh _ _;have h:=h.below hW;go_enter Tryz.func134,Tryz.ntmps134;go_wp2
 go_loop [5] (fun i=>∃k:Nat,k≤n∧i=.int .i64 k∧∀(j:Nat) (y:VR),j < k→l[j]? = some y→(y.i == id)=false) (fun i=>n - (intOf i).toNat)
 case atStart=>exact ⟨0,Nat.zero_le _,rfl,fun j y hj=>by omega⟩
 case round =>
  obtain ⟨k,hk,rfl,hno⟩:=hrel;by_cases hlt:k < n
  ·obtain ⟨x,b,off,hx,rfl,c0,-,-⟩:=zaI h k hlt;cases t1:(x.i == id)
   ·have HO:=hide (zeF hno hx t1);clear hno;go_wp2
    go_round
    case rel=>exact ⟨k+1,by omega,by go_num,HO.out⟩
    case measure=>simp [intOf]; omega
   ·have HF:=hide (zcE hno hx t1);clear hno;go_wp2;go_ret;exact ⟨(by rw [HF.out]; rfl),hW⟩
  ·have hkn:k=n:=by omega
   have HF:=hide (zc1 (l:=l) (id:=id) (fun i y hy=>hno i y (by have:=(List.getElem?_eq_some_iff.1 hy).1; omega) hy));clear hno;subst hkn;go_wp2;go_ret;exact ⟨(by rw [HF.out]; rfl),hW⟩

theorem zac {K:World→Prop} {W:World} {o:Obj} (h:∀wx,wx.heap[W.heap.size]? = some o→Below W.heap.size W wx→K wx):K (W.alloc o):=h _ (zv W o) (zh W o)

theorem zR {K:World→Prop} {W:World} {o:Obj} (h:∀wx,wx.heap[W.heap.size]? = some o→Below W.drew.heap.size W.drew wx→K wx):K (W.alloc o).drew:=h _ (zv W o) (zh W.drew o)

theorem zfT (R C H B P R' C' H' B' P':Int) (w:World):(binOp .eql 111 (.agg #[.int .i64 R,.int .i64 C,.int .i64 H,.int .i64 B,.int .i64 P]) (.agg #[.int .i64 R',.int .i64 C',.int .i64 H',.int .i64 B',.int .i64 P'])).run Tryz.prog w=.ok (.bool ((R == R') && ((C == C') && ((H == H') && ((B == B') && (P == P')))))) w:=by
 have u3:=Tryz.underlying3;have a3:=Tryz.isAgg3;have z3:=Tryz.sizeOf3;have hS:Tryz.prog.underlying 111=some (.struct (Tryz.prog.fieldsOf 111)):=by kernel_rfl
 have hp:Tryz.prog.stoodInHeld 111=false:=by kernel_rfl
 rw [run_eql_struct,show (10000:Nat)=9999+1 from rfl,run_equalIn_agg w 9999 111 _ _ hS hp];simp only [Program.fieldsOf,Tryz.underlying111];go_simp;by_cases h1:R=R' <;> by_cases h2:C=C' <;> by_cases h3:H=H' <;> by_cases h4:B=B' <;> by_cases h5:P=P' <;> simp [h1,h2,h3,h4,h5]

theorem zcr {w:World} {g:Nat} {T:TypeId} {c0 c1 c2 c3 c4 c5 c6 c7:Value} (h:w.heap[g]? = some (.cells #[c0,c1,c2,c3,c4,c5,c6,c7] T)) :
  w.cell? ⟨g,0,none⟩=some c0∧w.cell? ⟨g,1,none⟩=some c1∧w.cell? ⟨g,2,none⟩=some c2∧w.cell? ⟨g,3,none⟩=some c3∧w.cell? ⟨g,4,none⟩=some c4∧w.cell? ⟨g,5,none⟩=some c5∧w.cell? ⟨g,6,none⟩=some c6∧w.cell? ⟨g,7,none⟩=some c7:=by
 simp [World.cell?,h]

theorem zc8 (x:PT) (w:World) :
  Calls Tryz.prog 126 #[.agg #[.bool x.up,.int .i64 x.k,.bool x.has,.int .i64 x.v.r,.int .i64 x.v.c,.int .i64 x.v.h,.int .i64 x.v.b,.int .i64 x.v.p]] w fun e w'=>e=.returned (.bool (ptOk x))∧Below w.heap.size w w':=by
 have he:∀W,(binOp .eql 111 (.agg #[.int .i64 x.v.r,.int .i64 x.v.c,.int .i64 x.v.h,.int .i64 x.v.b,.int .i64 x.v.p]) (.agg #[.int .i64 0,.int .i64 0,.int .i64 0,.int .i64 0,.int .i64 0])).run Tryz.prog W=.ok (.bool (zd0 x.v)) W:=fun W=>by rw [zfT]; rfl
 have hgd:Tryz.prog.eqGuardType Tryz.prog.depth 111=false:=by kernel_rfl
 obtain ⟨up,k,has,⟨r,c,h,b,p⟩⟩:=x
 simp only at he ⊢
 generalize hw1:w.alloc (.cells #[.bool up,.int .i64 k,.bool has,.int .i64 r,.int .i64 c,.int .i64 h,.int .i64 b,.int .i64 p] 113)=w1;have q0:=zb hw1;obtain ⟨c0,c1,c2,c3,c4,c5,c6,c7⟩:=zcr (by rw [← hw1]; exact zv w _:w1.heap[w.heap.size]? = _);cases t1:(decide (1≤k) && decide (k≤1000))
 ·have T1:=hide t1;rw [show ptOk ⟨up,k,has,⟨r,c,h,b,p⟩⟩=false by unfold ptOk; rw [t1]; rfl];clear t1;go_enter Tryz.func126,Tryz.ntmps126;(go_wp2_with fail);refine (zi k 1 1000 _).mono ?_;rintro e w2 ⟨rfl,rfl⟩;rw [T1.out];go_wp2;go_ret;exact ⟨rfl,q0⟩
 cases has
 ·rw [show ptOk ⟨up,k,false,⟨r,c,h,b,p⟩⟩=zd0 ⟨r,c,h,b,p⟩ by unfold ptOk; rw [t1]; cases up <;> rfl];have T1:=hide t1;generalize zd0 ⟨r,c,h,b,p⟩=Q at *;clear t1;cases up <;>
  ·go_enter Tryz.func126,Tryz.ntmps126;(go_wp2_with fail);refine (zi k 1 1000 _).mono ?_;rintro e w2 ⟨rfl,rfl⟩;rw [T1.out];go_wp2;go_ret;exact ⟨rfl,q0⟩
 cases up
 ·rw [show ptOk ⟨false,k,true,⟨r,c,h,b,p⟩⟩=false by unfold ptOk; rw [t1]; rfl];have T1:=hide t1;clear t1;go_enter Tryz.func126,Tryz.ntmps126;(go_wp2_with fail);refine (zi k 1 1000 _).mono ?_;rintro e w2 ⟨rfl,rfl⟩;rw [T1.out];go_wp2;go_ret;exact ⟨rfl,q0⟩
 ·rw [show ptOk ⟨true,k,true,⟨r,c,h,b,p⟩⟩=okVc r c h b p by unfold ptOk; rw [t1]; rfl];have T1:=hide t1;clear t1;go_enter Tryz.func126,Tryz.ntmps126;(go_wp2_with fail);refine (zi k 1 1000 _).mono ?_;rintro e w2 ⟨rfl,rfl⟩;rw [T1.out];(go_wp2_with fail);refine (zaH r c h b p _).mono ?_;rintro e w3 ⟨rfl,hb3⟩;have HB:=hide (zd q0 hb3);clear hb3;go_wp2;go_ret;exact ⟨rfl,HB.out⟩

theorem zar (e:FE) (w:World) :
  Calls Tryz.prog 189 #[.agg #[.int .i64 e.t,.int .i64 e.m,.int .i64 e.p,.int .i64 e.a,.bool e.s]] w fun r w'=>r=.returned (.bool (entOk e))∧Below w.heap.size w w':=by
 generalize hP:entOk e=Q;unfold entOk at hP;cases t1:(decide (1≤e.t) && decide (e.t≤99))
 ·have h:Q=false:=by rw [← hP,t1]; rfl
  subst h;have T1:=hide t1;clear hP t1;go_enter Tryz.func189,Tryz.ntmps189;(go_wp2_with fail);refine (zi e.t 1 99 _).mono ?_;rintro r w1 ⟨rfl,rfl⟩;rw [T1.out];go_wp2;go_ret;exact ⟨rfl,zh _ _⟩
 cases t2:(decide (1≤e.m) && decide (e.m≤9999))
 ·have h:Q=false:=by rw [← hP,t1,t2]; rfl
  subst h;have T1:=hide t1;have T2:=hide t2;clear hP t1 t2;go_enter Tryz.func189,Tryz.ntmps189;(go_wp2_with fail);refine (zi e.t 1 99 _).mono ?_;rintro r w1 ⟨rfl,rfl⟩;rw [T1.out];(go_wp2_with fail);refine (zi e.m 1 9999 _).mono ?_;rintro r w2 ⟨rfl,rfl⟩;rw [T2.out];go_wp2;go_ret;exact ⟨rfl,zh _ _⟩
 cases t3:(decide (0≤e.p) && decide (e.p≤7))
 ·have h:Q=false:=by rw [← hP,t1,t2,t3]; rfl
  subst h;have T1:=hide t1;have T2:=hide t2;have T3:=hide t3;clear hP t1 t2 t3;go_enter Tryz.func189,Tryz.ntmps189;(go_wp2_with fail);refine (zi e.t 1 99 _).mono ?_;rintro r w1 ⟨rfl,rfl⟩;rw [T1.out];(go_wp2_with fail);refine (zi e.m 1 9999 _).mono ?_;rintro r w2 ⟨rfl,rfl⟩;rw [T2.out];(go_wp2_with fail);refine (zi e.p 0 7 _).mono ?_;rintro r w3 ⟨rfl,rfl⟩;rw [T3.out];go_wp2;go_ret;exact ⟨rfl,zh _ _⟩
 cases t4:(decide (0≤e.a) && decide (e.a≤4))
 ·have h:Q=false:=by rw [← hP,t1,t2,t3,t4]; rfl
  subst h;have T1:=hide t1;have T2:=hide t2;have T3:=hide t3;have T4:=hide t4;clear hP t1 t2 t3 t4;go_enter Tryz.func189,Tryz.ntmps189;(go_wp2_with fail);refine (zi e.t 1 99 _).mono ?_;rintro r w1 ⟨rfl,rfl⟩;rw [T1.out];(go_wp2_with fail);refine (zi e.m 1 9999 _).mono ?_;rintro r w2 ⟨rfl,rfl⟩;rw [T2.out];(go_wp2_with fail);refine (zi e.p 0 7 _).mono ?_;rintro r w3 ⟨rfl,rfl⟩;rw [T3.out];(go_wp2_with fail);refine (zi e.a 0 4 _).mono ?_;rintro r w4 ⟨rfl,rfl⟩;rw [T4.out];go_wp2;go_ret;exact ⟨rfl,zh _ _⟩
 rw [t1,t2,t3,t4,Bool.true_and,Bool.true_and,Bool.true_and,Bool.true_and] at hP;have T1:=hide t1;have T2:=hide t2;have T3:=hide t3;have T4:=hide t4;clear t1 t2 t3 t4;cases hs:e.s
 ·rw [hs] at hP;have h:Q=true:=by rw [← hP]; rfl
  subst h;clear hP;go_enter Tryz.func189,Tryz.ntmps189;(go_wp2_with fail);refine (zi e.t 1 99 _).mono ?_;rintro r w1 ⟨rfl,rfl⟩;rw [T1.out];(go_wp2_with fail);refine (zi e.m 1 9999 _).mono ?_;rintro r w2 ⟨rfl,rfl⟩;rw [T2.out];(go_wp2_with fail);refine (zi e.p 0 7 _).mono ?_;rintro r w3 ⟨rfl,rfl⟩;rw [T3.out];(go_wp2_with fail);refine (zi e.a 0 4 _).mono ?_;rintro r w4 ⟨rfl,rfl⟩;rw [T4.out];go_wp2;go_ret;exact ⟨rfl,zh _ _⟩
 ·rw [hs,Bool.not_true,Bool.false_or] at hP;have HP:=hide hP;clear hP;go_enter Tryz.func189,Tryz.ntmps189;(go_wp2_with fail);refine (zi e.t 1 99 _).mono ?_;rintro r w1 ⟨rfl,rfl⟩;rw [T1.out];(go_wp2_with fail);refine (zi e.m 1 9999 _).mono ?_;rintro r w2 ⟨rfl,rfl⟩;rw [T2.out];(go_wp2_with fail);refine (zi e.p 0 7 _).mono ?_;rintro r w3 ⟨rfl,rfl⟩;rw [T3.out];(go_wp2_with fail);refine (zi e.a 0 4 _).mono ?_;rintro r w4 ⟨rfl,rfl⟩;rw [T4.out];go_wp2;go_ret;exact ⟨zH HP.out,zh _ _⟩

theorem zbw (e:FE) (t m:Int) (w:World) :
  Calls Tryz.prog 201 #[.agg #[.int .i64 e.t,.int .i64 e.m,.int .i64 e.p,.int .i64 e.a,.bool e.s],.int .i64 t,.int .i64 m] w fun r w'=>r=.returned (.bool (ahead e t m))∧Below w.heap.size w w':=by
 unfold ahead;cases t1:(e.t != t)
 ·rw [if_neg Bool.false_ne_true];go_enter Tryz.func201,Tryz.ntmps201;go_wp2;go_ret;exact ⟨rfl,zh _ _⟩
 ·rw [if_pos rfl];go_enter Tryz.func201,Tryz.ntmps201;go_wp2;go_ret;exact ⟨rfl,zh _ _⟩

def okTo (l:List FE) (k:Nat):Prop:=∀i x,i < k→l[i]? = some x→entOk x=true∧∀y,0 < i→l[i - 1]? = some y→ahead y x.t x.m=true

theorem zc0:∀(l:List FE),rises l=true↔okTo l l.length
 | []=>by simp [rises,okTo]
 | [e]=>by
  simp only [rises,okTo,List.length_singleton]
  constructor
  ·intro h i x hi hx;have h0:i=0:=by omega
   subst h0
   simp at hx
   subst hx;exact ⟨h,fun y hy=>by omega⟩
  ·intro h;exact (h 0 e (by omega) rfl).1
 | e::f::r=>by
  have ih:=zc0 (f::r);unfold rises;simp only [Bool.and_eq_true,ih]
  constructor
  ·rintro ⟨h1,h2,h3⟩ i x hi hx
   match i,hx with
   | 0,hx =>
    simp at hx
    subst hx;exact ⟨h1,fun y hy=>by omega⟩
   | 1,hx =>
    simp at hx
    subst hx;refine ⟨(h3 0 f (by simp) rfl).1,fun y _ hy => ?_⟩
    simp at hy
    subst hy;exact h2
   | i+2,hx =>
    obtain ⟨a1,a2⟩:=h3 (i+1) x (by simp at hi ⊢; omega) (by simpa using hx);exact ⟨a1,fun y _ hy=>a2 y (by omega) (by simpa using hy)⟩
  ·intro h;refine ⟨(h 0 e (by simp) rfl).1,(h 1 f (by simp) rfl).2 e (by omega) rfl,fun i x hi hx => ?_⟩;obtain ⟨a1,a2⟩:=h (i+1) x (by simp at hi ⊢; omega) (by simpa using hx);refine ⟨a1,fun y hy hz=>a2 y (by omega) ?_⟩;obtain ⟨j,rfl⟩:∃j,i=j+1:=⟨i - 1,by omega⟩
   simpa using hz

theorem zcP {l:List FE} {k:Nat} {x:FE} (h:okTo l k) (hx:l[k]? = some x) (h1:entOk x=true) (h2:∀y,0 < k→l[k - 1]? = some y→ahead y x.t x.m=true):okTo l (k+1):=by
 intro i z hi hz;by_cases e:i=k
 ·subst e;rw [hx] at hz;cases hz;exact ⟨h1,h2⟩
 ·exact h i z (by omega) hz

theorem zcJ {l:List FE} (h:¬okTo l l.length):fdbOk l=false:=by
 unfold fdbOk
 have:rises l=false:=by
  cases hr:rises l
  ·rfl
  ·exact absurd ((zc0 l).1 hr) h
 rw [this]
 rfl

theorem zeV {l:List FE} (h:okTo l l.length):fdbOk l=decide ((l.length:Int)≤12):=by
 unfold fdbOk;rw [(zc0 l).2 h]
 rfl

theorem zjs:(Tryz.prog.info? 113).map (fun i=>(i.zero,i.size,i.bytes))=some (some (.agg #[.bool false,.int .i64 0,.bool false,.int .i64 0,.int .i64 0,.int .i64 0,.int .i64 0,.int .i64 0]),ptF.k,64):=by kernel_rfl

theorem zcg (w:World) {ops:Array Oper} {rest:List Oper} {o:Oper} {a:Act} {Q:Exit→Act→World→Prop} (hgd:o.guard=none)
  (s x:Operand) (ho:o.op=Op.call { callee:=Callee.builtin Builtin.append,args:=#[s,x],argTypes:=#[24,24] }) (base:Nat)
  (v:Value) (n:Nat) (xs:List PT) (hs:a.eval s=v) (hown:w.ownsRow base 113 8 v n (ptF.all xs)) (ao:Option Addr) (m c:Nat) (zs:List PT)
  (hx:a.eval x=.slice ao m c) (hrow:GRow ptF w ao m c zs) (hsm:n+m≤137438953472) (hbase:base≤w.heap.size)
  (h:∀ao' cap' w',w'.ownsRow base 113 8 (.slice ao' (n+m) cap') (n+m) (ptF.all (xs++zs))→GRow ptF w' ao' (n+m) cap' (xs++zs)→w.grownBy w' v.ownBlock→Below base w w'→wpList Tryz.prog ops Q rest (a.put o.dst (.slice ao' (n+m) cap')) w') :
  wpList Tryz.prog ops Q (o::rest) a w :=
 zw (F:=ptF) w hgd s x 24 113 ho base Tryz.underlying24 zjs rfl (by decide) v n xs hs hown ao m c zs hx hrow hsm hbase h

theorem zgG {w:World} {g:Nat} {T:TypeId} {c0 c1 c2 c3 c4 c5 c6 c7:Value} (h:w.heap[g]? = some (.cells #[c0,c1,c2,c3,c4,c5,c6,c7] T)) (u:Value):(w.setCell ⟨g,2,none⟩ u).heap[g]? = some (.cells #[c0,c1,u,c3,c4,c5,c6,c7] T):=zp (j:=2) h u

theorem zhO {w:World} {g:Nat} {T:TypeId} {c0 c1 c2 c3 c4 c5 c6 c7:Value} (h:w.heap[g]? = some (.cells #[c0,c1,c2,c3,c4,c5,c6,c7] T)) (u3 u4 u5 u6 u7:Value):(((((w.setCell ⟨g,3,none⟩ u3).setCell ⟨g,4,none⟩ u4).setCell ⟨g,5,none⟩ u5).setCell ⟨g,6,none⟩ u6).setCell ⟨g,7,none⟩ u7).heap[g]? = some (.cells #[c0,c1,c2,u3,u4,u5,u6,u7] T) :=
 zp (j:=7) (zp (j:=6) (zp (j:=5) (zp (j:=4) (zp (j:=3) h u3) u4) u5) u6) u7

theorem zm {w:World} {g:Nat} {T:TypeId} {cs:Array Value} (h:w.heap[g]? = some (.cells cs T)) (j:Nat):w.frozen? ⟨g,j,none⟩=false:=by
 simp [World.frozen?,h]

theorem ziw {w:World} {base k:Nat} {e:TypeId} {v:Value} {n:Nat} {xs:List Value} (h:w.ownsRow base e k v n xs):∀b,v.ownBlock=some b→b < w.heap.size:=fun b hb=>(h.lt b hb).2

theorem zie (x:Int):in1m x=true↔0≤x∧x≤1000000:=by
 unfold in1m
 simp

theorem zaV {b:BR} (h:zG b=true):b.ports.all ptOk=true∧in3 b.id 1 99=true∧(b.name.size:Int)≤10∧in3 (b.ports.length:Int) 1 6=true∧fdbOk b.f=true∧zO b.v (b.ports.length:Int)=true∧in1m b.ticks=true∧in1m b.parse=true∧in1m b.word=true∧in1m b.drops=true∧in1m b.vers=true:=by
 unfold zG zaj at h;simp only [Bool.and_eq_true,decide_eq_true_eq] at h;obtain ⟨h1,h2,h3,h4,h5,h6,h7,h8,h9,h10,h11⟩:=h;exact ⟨h1,h2,h3,h4,h5,h6,h7,h8,h9,h10,h11⟩

theorem zfy {b:BR} (h:b.ports.all ptOk=true∧in3 b.id 1 99=true∧(b.name.size:Int)≤10∧in3 (b.ports.length:Int) 1 6=true∧fdbOk b.f=true∧zO b.v (b.ports.length:Int)=true∧in1m b.ticks=true∧in1m b.parse=true∧in1m b.word=true∧in1m b.drops=true∧in1m b.vers=true):zG b=true:=by
 obtain ⟨h1,h2,h3,h4,h5,h6,h7,h8,h9,h10,h11⟩:=h;unfold zG zaj;rw [h1,h2,decide_eq_true h3,h4,h5,h6,h7,h8,h9,h10,h11]
 rfl

def PT.zero:PT:=⟨false,0,false,⟨0,0,0,0,0⟩⟩

theorem zey (R C H B P:Int) (w:World) :
  Calls Tryz.prog 288 #[.agg #[.int .i64 R,.int .i64 C,.int .i64 H,.int .i64 B,.int .i64 P]] w fun e w'=>e=.returned (.agg #[.int .i64 R,.int .i64 C,.int .i64 H,.int .i64 B,.int .i64 P])∧Below w.heap.size w w':=by
 go_enter Tryz.func288,Tryz.ntmps288;go_wp2;exact bodyPost_ret (v:=.agg #[.int .i64 R,.int .i64 C,.int .i64 H,.int .i64 B,.int .i64 P]) (by simp [results,Tryz.results288,go_sem, *]) rfl ⟨rfl,zaA _ _ _⟩

theorem ze4 (R C H B P:Int) (w:World) :
  Calls Tryz.prog 288 #[.agg #[.int .i64 R,.int .i64 C,.int .i64 H,.int .i64 B,.int .i64 P]] w fun e w'=>e=.returned (.agg #[.int .i64 R,.int .i64 C,.int .i64 H,.int .i64 B,.int .i64 P]) ∧
   w'=(w.alloc (.cells #[.int .i64 R,.int .i64 C,.int .i64 H,.int .i64 B,.int .i64 P] 111)).alloc (.cells #[.int .i64 R,.int .i64 C,.int .i64 H,.int .i64 B,.int .i64 P] 120):=by
 go_enter Tryz.func288,Tryz.ntmps288;go_wp2;exact bodyPost_ret (v:=.agg #[.int .i64 R,.int .i64 C,.int .i64 H,.int .i64 B,.int .i64 P]) (by simp [results,Tryz.results288,go_sem, *]) rfl ⟨rfl,rfl⟩

theorem zhV (R C H B P:Int) (w:World) :
  Calls Tryz.prog 289 #[.agg #[.int .i64 R,.int .i64 C,.int .i64 H,.int .i64 B,.int .i64 P]] w fun e w'=>e=.returned (.agg #[.int .i64 R,.int .i64 C,.int .i64 H,.int .i64 B,.int .i64 P])∧Below w.heap.size w w':=by
 go_enter Tryz.func289,Tryz.ntmps289;go_wp2;exact bodyPost_ret (v:=.agg #[.int .i64 R,.int .i64 C,.int .i64 H,.int .i64 B,.int .i64 P]) (by simp [results,Tryz.results289,go_sem, *]) rfl ⟨rfl,zaA _ _ _⟩

theorem zif (R C H B P:Int) (w:World):(Instr.index 120 (.agg #[.int .i64 R,.int .i64 C,.int .i64 H,.int .i64 B,.int .i64 P]) (.int .i64 0)).run Tryz.prog w=.ok (.int .i64 R) w:=by kernel_rfl
theorem zig (R C H B P:Int) (w:World):(Instr.index 120 (.agg #[.int .i64 R,.int .i64 C,.int .i64 H,.int .i64 B,.int .i64 P]) (.int .i64 1)).run Tryz.prog w=.ok (.int .i64 C) w:=by kernel_rfl
theorem zih (R C H B P:Int) (w:World):(Instr.index 120 (.agg #[.int .i64 R,.int .i64 C,.int .i64 H,.int .i64 B,.int .i64 P]) (.int .i64 2)).run Tryz.prog w=.ok (.int .i64 H) w:=by kernel_rfl
theorem zii (R C H B P:Int) (w:World):(Instr.index 120 (.agg #[.int .i64 R,.int .i64 C,.int .i64 H,.int .i64 B,.int .i64 P]) (.int .i64 3)).run Tryz.prog w=.ok (.int .i64 B) w:=by kernel_rfl
theorem zij (R C H B P:Int) (w:World):(Instr.index 120 (.agg #[.int .i64 R,.int .i64 C,.int .i64 H,.int .i64 B,.int .i64 P]) (.int .i64 4)).run Tryz.prog w=.ok (.int .i64 P) w:=by kernel_rfl

abbrev zjn:Array Value:=#[.int .i64 1,.int .i64 0,.int .i64 0,.int .i64 1,.int .i64 0]
abbrev mostC:Array Value:=#[.int .i64 99,.int .i64 100000,.int .i64 10,.int .i64 99,.int .i64 7]
abbrev endsC:Array Value:=#[.int .i64 1,.int .i64 0,.int .i64 0,.int .i64 1,.int .i64 0,.int .i64 99,.int .i64 100000,.int .i64 10,.int .i64 99,.int .i64 7]

def cl (n lo hi:Int):Int:=min (max n lo) hi

def nearC (R C H B P:Int) (k:Nat):Array Value :=
 #[.int .i64 (if 0 < k then cl R 1 99 else R),.int .i64 (if 1 < k then cl C 0 100000 else C),.int .i64 (if 2 < k then cl H 0 10 else H),.int .i64 (if 3 < k then cl B 1 99 else B),.int .i64 (if 4 < k then cl P 0 7 else P)]

theorem zg0 {w:World} {C:Nat} {t:TypeId} {c0 c1 c2 c3 c4 c5 c6 c7 c8 c9:Value} (h:w.heap[C]? = some (.cells #[c0,c1,c2,c3,c4,c5,c6,c7,c8,c9] t)) :
  w.cell? ⟨C,0,none⟩=some c0∧w.cell? ⟨C,1,none⟩=some c1∧w.cell? ⟨C,2,none⟩=some c2∧w.cell? ⟨C,3,none⟩=some c3∧w.cell? ⟨C,4,none⟩=some c4∧w.cell? ⟨C,5,none⟩=some c5∧w.cell? ⟨C,6,none⟩=some c6∧w.cell? ⟨C,7,none⟩=some c7∧w.cell? ⟨C,8,none⟩=some c8∧w.cell? ⟨C,9,none⟩=some c9:=by
 refine ⟨?_, ?_, ?_, ?_, ?_, ?_, ?_, ?_, ?_, ?_⟩ <;> simp [World.cell?,h]

theorem zfH (R C H B P:Int) (w:World) :
  Calls Tryz.prog 276 #[.agg #[.int .i64 R,.int .i64 C,.int .i64 H,.int .i64 B,.int .i64 P]] w fun e w'=>e=.returned (.agg #[.int .i64 (cl R 1 99),.int .i64 (cl C 0 100000),.int .i64 (cl H 0 10),.int .i64 (cl B 1 99),.int .i64 (cl P 0 7)])∧Below w.heap.size w w':=by
 have q3:=zbg w (.cells #[.int .i64 R,.int .i64 C,.int .i64 H,.int .i64 B,.int .i64 P] 111) (.cells #[.int .i64 0,.int .i64 0,.int .i64 0,.int .i64 0,.int .i64 0] 111) (.cells endsC 308);obtain ⟨k0,k1,k2⟩:=zbz (Below.refl _ (((w.alloc (.cells #[.int .i64 R,.int .i64 C,.int .i64 H,.int .i64 B,.int .i64 P] 111)).alloc (.cells #[.int .i64 0,.int .i64 0,.int .i64 0,.int .i64 0,.int .i64 0] 111)).alloc (.cells endsC 308)));have hn:(((w.alloc (.cells #[.int .i64 R,.int .i64 C,.int .i64 H,.int .i64 B,.int .i64 P] 111)).alloc (.cells #[.int .i64 0,.int .i64 0,.int .i64 0,.int .i64 0,.int .i64 0] 111)).alloc (.cells endsC 308)).heap.size=w.heap.size+3:=by simp
 have HQ:=hide q3;have HK0:=hide k0;have HK1:=hide k1;have HN:=hide hn;clear q3 k0 k1 hn;go_enter Tryz.func276,Tryz.ntmps276;go_upto_region 2 with fail
 generalize (((w.alloc (.cells #[.int .i64 R,.int .i64 C,.int .i64 H,.int .i64 B,.int .i64 P] 111)).alloc (.cells #[.int .i64 0,.int .i64 0,.int .i64 0,.int .i64 0,.int .i64 0] 111)).alloc (.cells endsC 308))=w3 at *;obtain ⟨x0,x1,x2,x3,x4,x5,x6,x7,x8,x9⟩:=zg0 k2;have K2:=hide k2;clear k2
 go_cut [4,5] from 9 to 38 (fun s t wc=>∃p4 p5:Nat,s=.pointer (some ⟨p4,0,none⟩)∧t=.pointer (some ⟨p5,0,none⟩)∧wc.heap[p4]? = some (.cells zjn 120)∧wc.heap[p5]? = some (.cells mostC 120)∧¬p4=p5∧w3.heap.size≤p4∧w3.heap.size≤p5∧Below w3.heap.size w3 wc)
 case first =>
  go_region_held3 (fun W=>W.cell? ⟨w.heap.size+1+1,0,none⟩=some (.int .i64 1)∧W.cell? ⟨w.heap.size+1+1,1,none⟩=some (.int .i64 0)∧W.cell? ⟨w.heap.size+1+1,2,none⟩=some (.int .i64 0)∧W.cell? ⟨w.heap.size+1+1,3,none⟩=some (.int .i64 1)∧W.cell? ⟨w.heap.size+1+1,4,none⟩=some (.int .i64 0)∧W.cell? ⟨w.heap.size+1+1,5,none⟩=some (.int .i64 99)∧W.cell? ⟨w.heap.size+1+1,6,none⟩=some (.int .i64 100000)∧W.cell? ⟨w.heap.size+1+1,7,none⟩=some (.int .i64 10)∧W.cell? ⟨w.heap.size+1+1,8,none⟩=some (.int .i64 99)∧W.cell? ⟨w.heap.size+1+1,9,none⟩=some (.int .i64 7))
   (first | assumption | exact zg0 (ze K2.out (by repeat (first | exact Below.refl _ _ | refine zr ?_ | refine zdj ?_ _))) | go_keep) (first
   | (go_at_call 288; refine (ze4 _ _ _ _ _ _).mono ?_; rintro e wx ⟨rfl,rfl⟩))
  all_goals
   (go_wp2_with fail)
   go_meet
   refine ⟨_,_,rfl,rfl,by repeat (first | (refine zfY ?_; simp; done) | refine ze ?_ (zh _ _) | refine za5 ?_),by repeat (first | (refine zfY ?_; simp; done) | refine ze ?_ (zh _ _) | refine za5 ?_),by omega,by omega,by omega,by repeat (first | exact Below.refl _ _ | refine zr ?_ | refine zdj ?_ _)⟩
 case rest =>
  obtain ⟨p4,p5,rfl,rfl,h4,h5,hne,hp4,hp5,hbc⟩:=hcut;have hn:=HN.out;have hsz:=hbc.size;obtain ⟨⟨v0,v1,v2,v3,v4⟩,-⟩:=zt (ze HK0.out hbc);clear x0 x1 x2 x3 x4 x5 x6 x7 x8 x9;(go_wp2_with fail);refine (zey R C H B P _).mono ?_;rintro e w6 ⟨rfl,hb6⟩;have hs6:=hb6.size;have q6:=zd hbc hb6;have k4:=ze (ze h4 hb6) (zh w6 (.cells #[.int .i64 R,.int .i64 C,.int .i64 H,.int .i64 B,.int .i64 P] 120));have k5:=ze (ze h5 hb6) (zh w6 (.cells #[.int .i64 R,.int .i64 C,.int .i64 H,.int .i64 B,.int .i64 P] 120));have k6:=zv w6 (.cells #[.int .i64 R,.int .i64 C,.int .i64 H,.int .i64 B,.int .i64 P] 120);have k1:=ze (ze HK1.out q6) (zh w6 (.cells #[.int .i64 R,.int .i64 C,.int .i64 H,.int .i64 B,.int .i64 P] 120));have hq:=HQ.out;have lt4:p4 < w6.heap.size:=(Array.getElem?_eq_some_iff.1 (ze h4 hb6)).1;have lt5:p5 < w6.heap.size:=(Array.getElem?_eq_some_iff.1 (ze h5 hb6)).1;clear v0 v1 v2 v3 v4 hb6;(go_wp2_with fail)
  go_loopw [21] (fun i wr=>∃k:Nat,k≤5∧i=.int .i64 k∧wr.heap[w6.heap.size]? = some (.cells (nearC R C H B P k) 120)∧(w6.alloc (.cells #[.int .i64 R,.int .i64 C,.int .i64 H,.int .i64 B,.int .i64 P] 120)).grownBy wr (some w6.heap.size)) (fun i _=>5 - (intOf i).toNat)
  case atStart=>exact ⟨0,Nat.zero_le _,rfl,k6,World.grownBy.refl _ _⟩
  case round =>
   obtain ⟨k,hk,hi,hc6,hg⟩:=hrel;have c4:=zA k4 hg (by intro j e; cases e; omega);have c5:=zA k5 hg (by intro j e; cases e; omega);have c1:=zA k1 hg (by intro j e; cases e; omega);have HG:=hide hg;obtain ⟨⟨y0,y1,y2,y3,y4⟩,-⟩:=zt c4;obtain ⟨⟨z0,z1,z2,z3,z4⟩,-⟩:=zt c5;have H6:=hide hc6;have H1:=hide c1;clear c4 c5 k4 k5 k6 k1 h4 h5 hg c1 hc6;rcases (show k=0∨k=1∨k=2∨k=3∨k=4∨k=5 by omega) with rfl | rfl | rfl | rfl | rfl | rfl
   ·have hi:_=Value.int .i64 0:=hi;subst hi;have h6:wr.heap[w6.heap.size]? = some (.cells #[.int .i64 R,.int .i64 C,.int .i64 H,.int .i64 B,.int .i64 P] 120):=H6.out;obtain ⟨⟨u0,u1,u2,u3,u4⟩,f0,f1,f2,f3,f4⟩:=zt h6;clear h6;have ix:=zif R C H B P wr;(go_wp2_with fail)
    go_region
    go_wp2
    go_roundw
    case rel =>
     refine ⟨0+1,by omega,by go_num, ?_,zaq (zaq HG.out (zl _ _)) (zdA (zr (Below.refl _ _)))⟩
     have:=zp (j:=0) H6.out (.int .i64 (cl R 1 99))
     exact za5 this
    case measure=>simp [intOf]
   ·have hi:_=Value.int .i64 1:=hi;subst hi;have h6:wr.heap[w6.heap.size]? = some (.cells #[.int .i64 (cl R 1 99),.int .i64 C,.int .i64 H,.int .i64 B,.int .i64 P] 120):=H6.out;obtain ⟨⟨u0,u1,u2,u3,u4⟩,f0,f1,f2,f3,f4⟩:=zt h6;clear h6;have ix:=zig R C H B P wr;(go_wp2_with fail)
    go_region
    go_wp2
    go_roundw
    case rel =>
     refine ⟨1+1,by omega,by go_num, ?_,zaq (zaq HG.out (zl _ _)) (zdA (zr (Below.refl _ _)))⟩
     have:=zp (j:=1) H6.out (.int .i64 (cl C 0 100000))
     exact za5 this
    case measure=>simp [intOf]
   ·have hi:_=Value.int .i64 2:=hi;subst hi;have h6:wr.heap[w6.heap.size]? = some (.cells #[.int .i64 (cl R 1 99),.int .i64 (cl C 0 100000),.int .i64 H,.int .i64 B,.int .i64 P] 120):=H6.out;obtain ⟨⟨u0,u1,u2,u3,u4⟩,f0,f1,f2,f3,f4⟩:=zt h6;clear h6;have ix:=zih R C H B P wr;(go_wp2_with fail)
    go_region
    go_wp2
    go_roundw
    case rel =>
     refine ⟨2+1,by omega,by go_num, ?_,zaq (zaq HG.out (zl _ _)) (zdA (zr (Below.refl _ _)))⟩
     have:=zp (j:=2) H6.out (.int .i64 (cl H 0 10))
     exact za5 this
    case measure=>simp [intOf]
   ·have hi:_=Value.int .i64 3:=hi;subst hi;have h6:wr.heap[w6.heap.size]? = some (.cells #[.int .i64 (cl R 1 99),.int .i64 (cl C 0 100000),.int .i64 (cl H 0 10),.int .i64 B,.int .i64 P] 120):=H6.out;obtain ⟨⟨u0,u1,u2,u3,u4⟩,f0,f1,f2,f3,f4⟩:=zt h6;clear h6;have ix:=zii R C H B P wr;(go_wp2_with fail)
    go_region
    go_wp2
    go_roundw
    case rel =>
     refine ⟨3+1,by omega,by go_num, ?_,zaq (zaq HG.out (zl _ _)) (zdA (zr (Below.refl _ _)))⟩
     have:=zp (j:=3) H6.out (.int .i64 (cl B 1 99))
     exact za5 this
    case measure=>simp [intOf]
   ·have hi:_=Value.int .i64 4:=hi;subst hi;have h6:wr.heap[w6.heap.size]? = some (.cells #[.int .i64 (cl R 1 99),.int .i64 (cl C 0 100000),.int .i64 (cl H 0 10),.int .i64 (cl B 1 99),.int .i64 P] 120):=H6.out;obtain ⟨⟨u0,u1,u2,u3,u4⟩,f0,f1,f2,f3,f4⟩:=zt h6;clear h6;have ix:=zij R C H B P wr;(go_wp2_with fail)
    go_region
    go_wp2
    go_roundw
    case rel =>
     refine ⟨4+1,by omega,by go_num, ?_,zaq (zaq HG.out (zl _ _)) (zdA (zr (Below.refl _ _)))⟩
     have:=zp (j:=4) H6.out (.int .i64 (cl P 0 7))
     exact za5 this
    case measure=>simp [intOf]
   ·have hi:_=Value.int .i64 5:=hi;subst hi;have h6:wr.heap[w6.heap.size]? = some (.cells #[.int .i64 (cl R 1 99),.int .i64 (cl C 0 100000),.int .i64 (cl H 0 10),.int .i64 (cl B 1 99),.int .i64 (cl P 0 7)] 120):=H6.out;obtain ⟨⟨u0,u1,u2,u3,u4⟩,f0,f1,f2,f3,f4⟩:=zt h6;clear h6;(go_wp2_with fail);refine (zhV (cl R 1 99) (cl C 0 100000) (cl H 0 10) (cl B 1 99) (cl P 0 7) _).mono ?_;rintro e w9 ⟨rfl,hb9⟩;obtain ⟨⟨t0,t1,t2,t3,t4⟩,g0,g1,g2,g3,g4⟩:=zt (ze H1.out hb9);have b9:=zd hq (zd q6 (zd (ziZ (zh w6 _) HG.out (Nat.le_refl _)) hb9));have HB:=hide b9;clear u0 u1 u2 u3 u4 f0 f1 f2 f3 f4 hb9 b9;go_wp2;exact bodyPost_ret (v:=.agg #[.int .i64 (cl R 1 99),.int .i64 (cl C 0 100000),.int .i64 (cl H 0 10),.int .i64 (cl B 1 99),.int .i64 (cl P 0 7)]) (by simp [results,Tryz.results276,go_sem, *]) rfl ⟨rfl,zZ HB.out (by omega) _ _ _ _ _⟩

end Go.Proofs.YtcpdkcdfnpcemaaGreat
