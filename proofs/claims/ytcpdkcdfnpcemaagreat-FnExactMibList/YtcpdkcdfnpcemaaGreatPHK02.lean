/-
  Packed: FdbMath FentMem VtabMath IBase IHelp VrowMem BrMem BrLaws MibMath OwnGen VtabAt Made VecEql PtOkS FdbSpec.
-/
import Derived.Test.YtcpdkcdfnpcemaaGreatPHK01
import Derived.Deep.RegionHeld3
namespace Go.Proofs.YtcpdkcdfnpcemaaGreat
set_option maxRecDepth 100000
set_option maxHeartbeats 16000000
open Go.RowKit

structure FE where
 t:Int
 m:Int
 p:Int
 a:Int
 s:Bool

def entOk (e:FE):Bool :=
 (decide (1≤e.t) && decide (e.t≤99)) && ((decide (1≤e.m) && decide (e.m≤9999)) && ((decide (0≤e.p) && decide (e.p≤7)) && ((decide (0≤e.a) && decide (e.a≤4)) && (!e.s || (e.a == 0)))))

theorem zeA (e:FE):entOk e=true↔(1≤e.t∧e.t≤99)∧(1≤e.m∧e.m≤9999)∧(0≤e.p∧e.p≤7)∧(0≤e.a∧e.a≤4)∧(e.s=true→e.a=0):=by
 unfold entOk;cases e.s <;> simp

def ahead (e:FE) (t m:Int):Bool:=if (e.t != t)=true then decide (e.t < t) else decide (e.m < m)

def both (e:FE) (t m:Int):Bool:=(e.t == t) && (e.m == m)

theorem zbr {e:FE} {t m:Int}:both e t m=true↔e.t=t∧e.m=m:=by simp [both]
theorem zaM {e:FE} {t m:Int}:both e t m=false↔¬(e.t=t∧e.m=m):=by
 rw [← zbr]; simp

theorem zaF {e:FE} {t m:Int}:ahead e t m=true↔e.t < t∨(e.t=t∧e.m < m):=by
 unfold ahead;by_cases h:e.t=t
 ·simp [h]
 ·simp [h]
theorem zbC {e:FE} {t m:Int}:ahead e t m=false↔¬(e.t < t∨(e.t=t∧e.m < m)):=by
 rw [← zaF]; simp

def rises:List FE→Bool
 | []=>true
 | [e]=>entOk e
 | e::f::r=>entOk e && (ahead e f.t f.m && rises (f::r))

def fdbOk (l:List FE):Bool:=rises l && decide ((l.length:Int)≤12)

def Sorted (l:List FE):Prop:=(∀e∈l,entOk e=true)∧l.Pairwise (fun e f=>ahead e f.t f.m=true)

theorem zfe {e f g:FE} (h1:ahead e f.t f.m=true) (h2:ahead f g.t g.m=true):ahead e g.t g.m=true:=by
 rw [zaF] at *;omega

theorem zcO:∀(l:List FE),rises l=true↔Sorted l
 | []=>by simp [rises,Sorted]
 | [e]=>by simp [rises,Sorted]
 | e::f::r=>by
  have ih:=zcO (f::r);unfold rises;simp only [Bool.and_eq_true,ih]
  constructor
  ·rintro ⟨h1,h2,h3,h4⟩;refine ⟨?_, ?_⟩
   ·intro x hx;rcases List.mem_cons.1 hx with rfl | hx
    ·exact h1
    ·exact h3 x hx
   ·refine List.pairwise_cons.2 ⟨?_,h4⟩;intro x hx;rcases List.mem_cons.1 hx with rfl | hx
    ·exact h2
    ·exact zfe h2 ((List.pairwise_cons.1 h4).1 x hx)
  ·rintro ⟨h1,h2⟩;obtain ⟨h3,h4⟩:=List.pairwise_cons.1 h2;exact ⟨h1 e (by simp),h3 f (by simp),fun x hx=>h1 x (List.mem_cons_of_mem _ hx),h4⟩

theorem zaU (l:List FE):fdbOk l=true↔Sorted l∧l.length≤12:=by
 unfold fdbOk;rw [Bool.and_eq_true,zcO,decide_eq_true_eq]
 constructor <;> rintro ⟨h1,h2⟩ <;> exact ⟨h1,by omega⟩

theorem zbp {e:FE} {l:List FE} (h:Sorted (e::l)):Sorted l:=⟨fun x hx=>h.1 x (List.mem_cons_of_mem _ hx),(List.pairwise_cons.1 h.2).2⟩
theorem zbO {e:FE} {l:List FE} (h:Sorted (e::l)):entOk e=true∧∀x∈l,ahead e x.t x.m=true:=⟨h.1 e (by simp),(List.pairwise_cons.1 h.2).1⟩

def lookE (l:List FE) (t m:Int):Option FE:=l.find? (fun e=>both e t m)

theorem zeO {l:List FE} {t m:Int}:lookE l t m=none↔∀e∈l,¬(e.t=t∧e.m=m):=by
 unfold lookE;rw [List.find?_eq_none]
 constructor
 ·intro h e he hb;exact h e he (zbr.2 hb)
 ·intro h e he hb;exact h e he (zbr.1 hb)

def putGo (e:FE):Bool→List FE→List FE
 | d,[]=>if d=true then [] else [e]
 | d,x::r =>
  if (!d && !ahead x e.t e.m)=true then e::(if both x e.t e.m=true then putGo e true r else x::putGo e true r)
  else if both x e.t e.m=true then putGo e d r else x::putGo e d r

def putF8 (e:FE) (l:List FE):List FE:=putGo e false l

theorem ze3 {e:FE} {l:List FE} (h:∀x∈l,ahead e x.t x.m=true):putGo e true l=l:=by
 induction l with
 | nil=>rfl
 | cons x r ih =>
  unfold putGo;have hx:=h x (by simp);rw [zaF] at hx;rw [zaM.2 (by omega)]
  simp [ih (fun y hy=>h y (List.mem_cons_of_mem _ hy))]

def insF (e:FE):List FE→List FE
 | []=>[e]
 | x::r=>if ahead x e.t e.m=true then x::insF e r else if both x e.t e.m=true then e::r else e::x::r

theorem zb1 {e:FE} {l:List FE} (h:Sorted l):putF8 e l=insF e l:=by
 unfold putF8
 induction l with
 | nil=>rfl
 | cons x r ih =>
  obtain ⟨_,hx⟩:=zbO h;unfold putGo insF;cases ha:ahead x e.t e.m
  ·have hb:∀y∈r,ahead e y.t y.m=true:=by
    intro y hy
    have:=hx y hy
    rw [zaF] at *;rw [zbC] at ha;omega
   rw [ze3 hb]
   simp
   split <;> rfl
  ·have ha':=ha;rw [zaF] at ha';rw [zaM.2 (by omega)]
   simp [ih (zbp h)]

theorem zeo {e:FE} {l:List FE} (h:Sorted l) {x:FE}:x∈insF e l↔x=e∨(x∈l∧¬(x.t=e.t∧x.m=e.m)):=by
 induction l with
 | nil=>simp [insF]
 | cons y r ih =>
  obtain ⟨_,hy⟩:=zbO h;unfold insF;cases ha:ahead y e.t e.m
  ·have hr:∀z∈r,¬(z.t=e.t∧z.m=e.m):=by
    intro z hz
    have:=hy z hz
    rw [zaF] at this;rw [zbC] at ha;omega
   cases hb:both y e.t e.m
   ·rw [zaM] at hb;simp only [Bool.false_eq_true,if_false,List.mem_cons]
    constructor
    ·rintro (rfl | rfl | hx)
     ·exact .inl rfl
     ·exact .inr ⟨.inl rfl,hb⟩
     ·exact .inr ⟨.inr hx,hr x hx⟩
    ·rintro (rfl | ⟨rfl | hx,_⟩)
     ·exact .inl rfl
     ·exact .inr (.inl rfl)
     ·exact .inr (.inr hx)
   ·rw [zbr] at hb;simp only [Bool.false_eq_true,if_false,if_true,List.mem_cons]
    constructor
    ·rintro (rfl | hx)
     ·exact .inl rfl
     ·exact .inr ⟨.inr hx,hr x hx⟩
    ·rintro (rfl | ⟨rfl | hx,hn⟩)
     ·exact .inl rfl
     ·exact absurd hb hn
     ·exact .inr hx
  ·simp only [if_true,List.mem_cons,ih (zbp h)];have hb:¬(y.t=e.t∧y.m=e.m):=by rw [zaF] at ha; omega
   constructor
   ·rintro (rfl | rfl | ⟨hx,hn⟩)
    ·exact .inr ⟨.inl rfl,hb⟩
    ·exact .inl rfl
    ·exact .inr ⟨.inr hx,hn⟩
   ·rintro (rfl | ⟨rfl | hx,hn⟩)
    ·exact .inr (.inl rfl)
    ·exact .inl rfl
    ·exact .inr (.inr ⟨hx,hn⟩)

theorem zdB {e:FE} (he:entOk e=true) {l:List FE} (h:Sorted l):Sorted (insF e l):=by
 refine ⟨?_, ?_⟩
 ·intro x hx;rcases (zeo h).1 hx with rfl | ⟨hx,_⟩
  ·exact he
  ·exact h.1 x hx
 ·induction l with
  | nil=>simp [insF]
  | cons y r ih =>
   obtain ⟨_,hy⟩:=zbO h;unfold insF;cases ha:ahead y e.t e.m
   ·have hr:∀z∈r,ahead e z.t z.m=true:=by
     intro z hz
     have:=hy z hz
     rw [zaF] at *;rw [zbC] at ha;omega
    cases hb:both y e.t e.m
    ·simp only [Bool.false_eq_true,if_false];refine List.pairwise_cons.2 ⟨?_,h.2⟩;intro z hz;rcases List.mem_cons.1 hz with rfl | hz
     ·rw [zbC] at ha;rw [zaM] at hb;rw [zaF];omega
     ·exact hr z hz
    ·simp only [Bool.false_eq_true,if_false,if_true];exact List.pairwise_cons.2 ⟨hr,(List.pairwise_cons.1 h.2).2⟩
   ·simp only [if_true];refine List.pairwise_cons.2 ⟨?_,ih (zbp h)⟩;intro z hz;rcases (zeo (zbp h)).1 hz with rfl | ⟨hz,_⟩
    ·exact ha
    ·exact hy z hz

theorem zdm {e:FE} {l:List FE} (h:Sorted l):(insF e l).length=if (lookE l e.t e.m).isSome=true then l.length else l.length+1:=by
 induction l with
 | nil=>rfl
 | cons y r ih =>
  obtain ⟨_,hy⟩:=zbO h;unfold insF lookE;rw [List.find?_cons];cases ha:ahead y e.t e.m
  ·cases hb:both y e.t e.m
   ·have hr:lookE r e.t e.m=none:=zeO.2 (by
     intro z hz
     have:=hy z hz
     rw [zaF] at this;rw [zbC] at ha;omega)
    unfold lookE at hr
    simp [hr]
   ·simp
  ·have hb:both y e.t e.m=false:=zaM.2 (by rw [zaF] at ha; omega);rw [hb];have ih:=ih (zbp h);unfold lookE at ih;simp only [if_true,List.length_cons,ih]
   split <;> rfl

def atF (l:List FE) (t m:Int):Int :=
 match l.findIdx? (fun e=>both e t m) with
 | some i=>i
 | none => -1

def zcl (l:List FE) (t m p:Int):Bool :=
 fdbOk l && (entOk ⟨t,m,p,0,false⟩ && (match lookE l t m with | some e => !e.s | none=>decide (l.length < 12)))
def za9 (l:List FE) (t m p:Int):List FE:=if zcl l t m p=true then putF8 ⟨t,m,p,0,false⟩ l else l

def zdP (l:List FE) (t m p:Int):Bool :=
 fdbOk l && (entOk ⟨t,m,p,0,true⟩ && ((lookE l t m).isSome || decide (l.length < 12)))
def setF (l:List FE) (t m p:Int):List FE:=if zdP l t m p=true then putF8 ⟨t,m,p,0,true⟩ l else l

theorem zh2 {l:List FE} (h:fdbOk l=true) (t m p:Int):fdbOk (za9 l t m p)=true:=by
 unfold za9
 split
 ·rename_i hc
  unfold zcl at hc;simp only [Bool.and_eq_true] at hc;obtain ⟨_,he,hm⟩:=hc;obtain ⟨hs,hl⟩:=(zaU l).1 h;rw [zb1 hs,zaU];refine ⟨zdB he hs, ?_⟩;rw [zdm hs];cases hk:lookE l t m with
  | some e=>simp [hl]
  | none =>
   rw [hk] at hm
   simp at hm
   simp
   omega
 ·exact h

theorem zjb {l:List FE} (h:fdbOk l=true) (t m p:Int):fdbOk (setF l t m p)=true:=by
 unfold setF
 split
 ·rename_i hc
  unfold zdP at hc;simp only [Bool.and_eq_true] at hc;obtain ⟨_,he,hm⟩:=hc;obtain ⟨hs,hl⟩:=(zaU l).1 h;rw [zb1 hs,zaU];refine ⟨zdB he hs, ?_⟩;rw [zdm hs];cases hk:lookE l t m with
  | some e=>simp [hl]
  | none =>
   rw [hk] at hm
   simp at hm
   simp
   omega
 ·exact h

section
open Go.RowKit

def fentF:Flat FE where
 k:=5
 cs:=fun e=>[.int .i64 e.t,.int .i64 e.m,.int .i64 e.p,.int .i64 e.a,.bool e.s]
 len:=fun _=>rfl
 pos:=by decide
 one:=fun _ v hv=>by
  simp only [List.mem_cons,List.not_mem_nil,or_false] at hv;rcases hv with rfl | rfl | rfl | rfl | rfl <;> rfl

theorem zgi {n:Int} (h:(Lit.int .i64 n).wf=true) : -9223372036854775808≤n∧n≤9223372036854775807:=by
 simp [Lit.wf,IntKind.min,IntKind.max,IntKind.bits,IntKind.signed] at h
 omega

def FE.Rng (e:FE):Prop:=(-9223372036854775808≤e.t∧e.t≤9223372036854775807)∧(-9223372036854775808≤e.m∧e.m≤9223372036854775807)∧(-9223372036854775808≤e.p∧e.p≤9223372036854775807)∧(-9223372036854775808≤e.a∧e.a≤9223372036854775807)

theorem zaP {w:World} {ao:Option Addr} {len cap:Nat} {l:List FE} (h:GRow fentF w ao len cap l) (i:Nat) (hi:i < len):∃(x:FE) (b off:Nat),l[i]? = some x∧ao=some ⟨b,off,none⟩ ∧
  w.cell? ⟨b,off+i*5,none⟩=some (.int .i64 x.t)∧w.cell? ⟨b,off+i*5+1,none⟩=some (.int .i64 x.m)∧w.cell? ⟨b,off+i*5+2,none⟩=some (.int .i64 x.p)∧w.cell? ⟨b,off+i*5+3,none⟩=some (.int .i64 x.a)∧w.cell? ⟨b,off+i*5+4,none⟩=some (.bool x.s):=by
 obtain ⟨x,b,off,hx,ha,hc⟩:=h.at i hi;exact ⟨x,b,off,hx,ha,hc 0 _ rfl,hc 1 _ rfl,hc 2 _ rfl,hc 3 _ rfl,hc 4 _ rfl⟩

section
open Go.ChangeShapes Go.WideShapes Go.ChangeAt
variable {H:Type} {enc:TypeId × Value→H} {P:Program} {w:World}

theorem zg0 {tp ti tb:TypeId} {g0 g1 g2 g3 g4:Field} (hs:P.underlying tp=some (.struct #[g0,g1,g2,g3,g4])) (hi:P.underlying ti=some (.int .i64)) (hb:P.underlying tb=some .bool)
  (e0:g0.type=ti∧g0.offset=0) (e1:g1.type=ti∧g1.offset=1) (e2:g2.type=ti∧g2.offset=2) (e3:g3.type=ti∧g3.offset=3) (e4:g4.type=tb∧g4.offset=4) (hC:P.cellsOf tp=5) (hti:P.cellsOf ti=1) (htb:P.cellsOf tb=1)
  {fuel:Nat} {cs:List Value} {x:DataW H × List MemPlace} (h:DataW.trod enc P w 0 (fun _=>true) true fuel tp cs=some x):∃y,cs=fentF.cs y∧y.Rng:=by
 obtain ⟨xs,n,_,_,hlen,hxl,hq⟩:=DataW.trod_struct hs h;rw [hC] at hlen
 match xs,hxl,cs,hlen with
 | [y0,y1,y2,y3,y4],_,[v0,v1,v2,v3,v4],_ =>
  have k0:=hq 0 g0 rfl;have k1:=hq 1 g1 rfl;have k2:=hq 2 g2 rfl;have k3:=hq 3 g3 rfl;have k4:=hq 4 g4 rfl;rw [e0.1,e0.2,hti] at k0;rw [e1.1,e1.2,hti] at k1;rw [e2.1,e2.2,hti] at k2;rw [e3.1,e3.2,hti] at k3;rw [e4.1,e4.2,htb] at k4
  simp at k0 k1 k2 k3 k4
  obtain ⟨T,i0,-,r0⟩:=DataW.trod_int hi k0;obtain ⟨M,i1,-,r1⟩:=DataW.trod_int hi k1;obtain ⟨P',i2,-,r2⟩:=DataW.trod_int hi k2;obtain ⟨A,i3,-,r3⟩:=DataW.trod_int hi k3;obtain ⟨S,i4,-⟩:=DataW.trod_bool hb k4;simp only [List.cons.injEq,and_true] at i0 i1 i2 i3 i4;subst i0 i1 i2 i3 i4;exact ⟨⟨T,M,P',A,S⟩,rfl,zgi r0,zgi r1,zgi r2,zgi r3⟩
end

end

structure VR where
 i:Int
 m:Int
 b:Int

structure VT where
 rows:List VR
 own:List Int

def zaw (l:List VR) (id:Int):Option Nat:=l.findIdx? (fun r=>r.i == id)
def rowAt (l:List VR) (id:Int):Int:=match zaw l id with
 | some k=>k
 | none => -1

def in3 (x lo hi:Int):Bool:=decide (lo≤x) && decide (x≤hi)
def allOf (p:Nat):Int:=2 ^ p - 1

def zaT (all:Int) (r:VR):Bool:=in3 r.i 1 99 && in3 r.m 0 all && in3 r.b 0 all && (bits .and .i64 r.b r.m == r.b)

def vrises:List VR→Bool
 | []=>true
 | [_]=>true
 | e::f::r=>decide (e.i < f.i) && vrises (f::r)

def zL (v:VT) (ports:Int):Bool :=
 in3 ports 1 6 && ((v.own.length:Int) == ports) && decide (v.rows.length≤6) && v.rows.all (zaT (allOf ports.toNat)) && vrises v.rows && v.own.all (fun p=>(zaw v.rows p).isSome)

def zF (l:List VR) (r:VR):Bool→List VR
 | d=>match l with
  | []=>if d then [] else [r]
  | x::t=>(if !d && decide (r.i≤x.i) then [r] else [])++(if x.i != r.i then [x] else [])++zF t r (d || decide (r.i≤x.i))

theorem ze7 {l:List VR} {id:Int} {k:Nat} {x:VR} (hno:∀j y,j < k→l[j]? = some y→(y.i == id)=false) (hx:l[k]? = some x) (he:(x.i == id)=true):zaw l id=some k:=by
 obtain ⟨hk,rfl⟩:=List.getElem?_eq_some_iff.1 hx;refine List.findIdx?_eq_some_iff_getElem.2 ⟨hk,he,fun j hj => ?_⟩
 have:=hno j l[j] hj (List.getElem?_eq_getElem (by omega))
 simp [this]

theorem zfF {l:List VR} {id:Int} (hno:∀(j:Nat) (y:VR),l[j]? = some y→(y.i == id)=false):zaw l id=none:=by
 refine List.findIdx?_eq_none_iff.2 fun x hx => ?_
 obtain ⟨j,hj⟩:=List.mem_iff_getElem?.1 hx;exact hno j x hj

theorem zfG {l:List VR} {id:Int} {k:Nat} (h:zaw l id=some k):∃x,l[k]? = some x∧(x.i == id)=true∧l.find? (fun r=>r.i == id)=some x:=by
 obtain ⟨hk,he,hno⟩:=List.findIdx?_eq_some_iff_getElem.1 h;refine ⟨l[k],List.getElem?_eq_getElem hk,he, ?_⟩;refine List.find?_eq_some_iff_getElem.2 ⟨he,k,hk,rfl,fun j hj => ?_⟩
 have:=hno j hj
 simpa using this

theorem zge {l:List VR} {id:Int} {k:Nat} {x:VR} (hno:∀j y,j < k→l[j]? = some y→(y.i == id)=false) (hx:l[k]? = some x) (he:(x.i == id)=false):∀j y,j < k+1→l[j]? = some y→(y.i == id)=false:=by
 intro j y hj hy;by_cases e:j=k
 ·subst e;rw [hx] at hy;cases hy;exact he
 ·exact hno j y (by omega) hy

theorem zdA {l:List VR} {id:Int} {k:Nat} {x:VR} (hno:∀j y,j < k→l[j]? = some y→(y.i == id)=false) (hx:l[k]? = some x) (he:(x.i == id)=true):rowAt l id=k:=by
 unfold rowAt;rw [ze7 hno hx he]
theorem zd3 {l:List VR} {id:Int} (hno:∀(j:Nat) (y:VR),l[j]? = some y→(y.i == id)=false):rowAt l id = -1:=by
 unfold rowAt;rw [zfF hno]

def cI (zs:List Int):List Value:=zs.map (Value.int .i64)

def I64s (zs:List Int):Prop:=∀z∈zs,-9223372036854775808≤z∧z≤9223372036854775807

theorem zbk (zs:List Int):(cI zs).length=zs.length:=by simp [cI]
theorem zbW (a b:List Int):cI (a++b)=cI a++cI b:=by simp [cI]
theorem ziy (zs:List Int) (j:Nat) (h:j < zs.length):(cI zs)[j]? = some (.int .i64 (zs.getD j 0)):=by
 simp [cI,List.getElem?_map,List.getElem?_eq_getElem h]

structure IRow (w:World) (ao:Option Addr) (len cap:Nat) (zs:List Int):Prop where
 size:zs.length=len
 le:len≤cap
 top:cap≤maxLen
 nil:ao=none→cap=0
 byte:I64s zs
 cell:len=0∨∃b off,ao=some ⟨b,off,none⟩∧∀i,i < len→w.cell? ⟨b,off+i,none⟩=some (.int .i64 (zs.getD i 0))

theorem IRow.below {w w':World} {ao:Option Addr} {len cap:Nat} {zs:List Int} (h:IRow w ao len cap zs) (hb:Below w.heap.size w w'):IRow w' ao len cap zs where
 size:=h.size
 le:=h.le
 top:=h.top
 nil:=h.nil
 byte:=h.byte
 cell:=by
  rcases h.cell with h0 | ⟨b,off,ha,hc⟩
  ·exact .inl h0
  ·exact .inr ⟨b,off,ha,fun i hi=>by rw [hb.cell (zp (hc i hi))]; exact hc i hi⟩

theorem zch {w:World} {base:Nat} {v:Value} {n:Nat} {zs:List Int} (h:w.ownsRow base 3 1 v n (cI zs)) (hz:I64s zs) :
  ∃ao cap,v=.slice ao n cap∧IRow w ao n cap zs:=by
 have hl:zs.length=n:=by have:=h.1; simpa [cI] using this
 rcases h.2 with ⟨rfl,rfl⟩ | ⟨g,cap,cur,rfl,hg,hh,h1,h2,h3,h4⟩
 ·exact ⟨none,0,rfl,hl,Nat.le_refl _,Nat.zero_le _,fun _=>rfl,hz,.inl rfl⟩
 ·refine ⟨_,cap,rfl,hl,h1,h2,(by intro h; cases h),hz,.inr ⟨g,0,rfl,fun i hi => ?_⟩⟩
  have:=h.cellAt i (by omega)
  rw [Nat.zero_add,this,ziy zs i (by omega)]

theorem Tryz.infoI64:(Tryz.prog.info? 3).map (fun i=>(i.zero,i.size,i.bytes))=some (some (.int .i64 0),1,8):=by kernel_rfl

theorem IRow.news {w:World} {ao:Option Addr} {len cap:Nat} {zs:List Int} (h:IRow w ao len cap zs) (ad:Addr) (ha:ao=some ad) (j:Nat) (u:Value) (hu:(cI zs)[j]? = some u):w.cell? (ad.add j)=some u:=by
 have hj:j < zs.length:=by
  by_cases hlt:j < zs.length
  ·exact hlt
  ·rw [List.getElem?_eq_none (by rw [zbk]; omega)] at hu;cases hu
 rw [ziy _ _ hj] at hu;rcases h.cell with h0 | ⟨b,off,hb,hc⟩
 ·have:=h.size; omega
 ·rw [ha] at hb;cases hb;rw [← hu];rw [zck]; exact hc j (by have:=h.size; omega)

theorem IRow.none_zero {w:World} {ao:Option Addr} {len cap:Nat} {zs:List Int} (h:IRow w ao len cap zs) (ha:ao=none):len=0∧cap=0:=by
 have:=h.nil ha; have:=h.le; omega

theorem zgl (zs:List Int) (u:Value) (h:u∈cI zs):u.oneCell'=true:=ints_oneCell .i64 zs u h

theorem zdj {a b:List Int} (ha:I64s a) (hb:I64s b):I64s (a++b):=by
 intro z hz;rcases List.mem_append.1 hz with h | h
 ·exact ha z h
 ·exact hb z h

theorem zcD {P:Program} (w:World) {ops:Array Oper} {rest:List Oper} {o:Oper} {a:Act} {Q:Exit→Act→World→Prop} (hgd:o.guard=none)
  (s x:Operand) (t:TypeId) (ho:o.op=Op.call { callee:=Callee.builtin Builtin.append,args:=#[s,x],argTypes:=#[t,t] }) (base:Nat)
  (ht:P.underlying t=some (TypeDesc.slice 3)) (hinfo:(P.info? 3).map (fun i=>(i.zero,i.size,i.bytes))=some (some (.int .i64 0),1,8))
  (v:Value) (n:Nat) (xs:List Int) (hs:a.eval s=v) (hown:w.ownsRow base 3 1 v n (cI xs)) (hxs:I64s xs) (ao:Option Addr) (m c:Nat) (zs:List Int)
  (hx:a.eval x=.slice ao m c) (hrow:IRow w ao m c zs) (hsm:(n+m)*8≤140737488355328) (hbase:base≤w.heap.size)
  (h:∀ao' cap' w',w'.ownsRow base 3 1 (.slice ao' (n+m) cap') (n+m) (cI (xs++zs))→IRow w' ao' (n+m) cap' (xs++zs)→Below base w w'→wpList P ops Q rest (a.put o.dst (.slice ao' (n+m) cap')) w') :
  wpList P ops Q (o::rest) a w:=by
 obtain ⟨i0,hi,hz0,hz1,hz2⟩:=info_parts hinfo;have hby:=zdj hxs hrow.byte;rcases ao with _ | ad
 ·obtain ⟨rfl,rfl⟩:=hrow.none_zero rfl;have hz:zs=[]:=List.eq_nil_of_length_eq_zero hrow.size;subst hz;refine wpList_append_own_none hgd s x t ho base 3 i0 1 ht hi v n (cI xs) hs hown hx ?_;obtain ⟨ao',cap',rfl,hr⟩:=zch hown hxs
  have:=h ao' cap' w (by simpa using hown) (by simpa using hr) (Below.refl _ _)
  simpa using this
 ·refine wpList_append_own w hgd s x t ho base 3 i0 (.int .i64 0) 1 8 ht hi hz0 hz1 hz2 rfl (by decide) v n (cI xs) hs hown ad m c (cI zs) hx (by rw [zbk,hrow.size]; omega) (fun j u hu=>hrow.news ad rfl j u hu) (zgl zs) (by unfold maxLen; omega) (by omega) hbase ?_;intro v' w' how hgr _;rw [← zbW] at how;have hlt:=hown.lt;obtain ⟨ao',cap',rfl,hr⟩:=zch how hby;exact h ao' cap' w' how hr ((Below.refl _ _).grown hgr hbase (by intro k hk; exact (hlt k hk).1))

theorem zhS {zs:List Int} (h:I64s zs) (j:Nat) : -9223372036854775808≤zs.getD j 0∧zs.getD j 0≤9223372036854775807:=by
 by_cases hj:j < zs.length
 ·rw [List.getD_eq_getElem?_getD,List.getElem?_eq_getElem hj]; exact h _ (List.getElem_mem hj)
 ·rw [List.getD_eq_getElem?_getD,List.getElem?_eq_none (by omega)]; simp

theorem IRow.at {w:World} {ao:Option Addr} {len cap:Nat} {zs:List Int} (h:IRow w ao len cap zs) (hp:0 < len):∃b off,ao=some ⟨b,off,none⟩∧∀i,i < len→w.cell? ⟨b,off+i,none⟩=some (.int .i64 (zs.getD i 0)):=by
 rcases h.cell with h0 | h0
 ·omega
 ·exact h0

theorem I64s.at {zs:List Int} (h:I64s zs) (j:Nat) : -9223372036854775808≤zs.getD j 0∧zs.getD j 0≤9223372036854775807:=zhS h j

theorem zf3 (w:World):IRow w none 0 0 []:=⟨rfl,Nat.le_refl _,Nat.zero_le _,fun _=>rfl,(by intro z hz; cases hz),.inl rfl⟩

theorem zg4 {w:World} {x:Addr} {len cap:Nat} {zs:List Int} (hl:len≤cap) (hm:cap≤maxLen) (hz:zs.length=cap) (hcell:∀i,i < zs.length→w.cell? (x.add i)=some (.int .i64 (zs.getD i 0))) (hwz:∀n∈zs,(Lit.int .i64 n).wf=true):IRow w (some x) len cap (zs.take len) where
 size:=by simp; omega
 le:=hl
 top:=hm
 nil:=by intro h; cases h
 byte:=by
  intro z h
  have:=hwz z (List.mem_of_mem_take h)
  simp [Lit.wf,IntKind.min,IntKind.max,IntKind.bits,IntKind.signed] at this
  omega
 cell:=by
  by_cases h0:len=0
  ·exact .inl h0
  ·have hc0:=hcell 0 (by omega);obtain ⟨b,off,spot⟩:=x;have hspot:spot=none:=by simpa [Addr.add] using World.cell?_spot hc0
   subst hspot;refine .inr ⟨b,off,rfl,fun i hi => ?_⟩
   have:=hcell i (by omega)
   have e:(⟨b,off,none⟩:Addr).add i=⟨b,off+i,none⟩:=by by_cases h:i=0 <;> simp [Addr.add,h]
   rw [e] at this;rw [this]
   simp [List.getD_eq_getElem?_getD,hi]

theorem zh1 (w:World) (x:Int) (h : -9223372036854775808≤x∧x≤9223372036854775807):IRow (w.alloc (.cells #[.int .i64 x] 3)) (some ⟨w.heap.size,0,none⟩) 1 1 [x] where
 size:=rfl
 le:=Nat.le_refl _
 top:=by unfold maxLen; omega
 nil:=by intro h; cases h
 byte:=by intro z hz; simp at hz; subst hz; exact h
 cell:=.inr ⟨w.heap.size,0,rfl,fun i hi=>by
  obtain rfl:i=0:=by omega
  simp⟩

theorem zfl (a1:Option Addr) (l1 c1:Nat) (z1:List Int) (a2:Option Addr) (l2 c2:Nat) (z2:List Int) (w:World) (h1:IRow w a1 l1 c1 z1) (h2:IRow w a2 l2 c2 z2) :
  Calls Tryz.prog 175 #[.slice a1 l1 c1,.slice a2 l2 c2] w fun e w'=>e=.returned (.bool (decide (z1=z2)))∧∃n,w'=w.drewN n:=by
 have m1:=h1.top; have m2:=h2.top; have s1:=h1.size; have s2:=h2.size; have e1:=h1.le; have e2:=h2.le
 unfold maxLen at m1 m2;by_cases hl:l1=l2
 ·subst hl;by_cases h0:l1=0
  ·subst h0;have hz:z1=z2:=by rw [List.eq_nil_of_length_eq_zero s1,List.eq_nil_of_length_eq_zero s2]
   go_enter Tryz.func175,Tryz.ntmps175;go_wp2
   go_loop [5] (fun i=>i=.int .i64 0) (fun _=>0)
   case atStart=>rfl
   case round =>
    subst hrel;go_wp2;go_ret;exact ⟨by simp,0,rfl⟩
  ·rcases h1.cell with h | ⟨b1,o1,rfl,g1⟩
   ·exact absurd h h0
   rcases h2.cell with h | ⟨b2,o2,rfl,g2⟩
   ·exact absurd h h0
   clear h1 h2;have G1:Hid (∀i,i < l1→w.cell? ⟨b1,o1+i,none⟩=some (.int .i64 (z1.getD i 0))):=g1;have G2:Hid (∀i,i < l1→w.cell? ⟨b2,o2+i,none⟩=some (.int .i64 (z2.getD i 0))):=g2;clear g1 g2;go_enter Tryz.func175,Tryz.ntmps175;go_wp2
   go_loopw [5] (fun i wr=>∃k:Nat,k≤l1∧i=.int .i64 k∧z1.take k=z2.take k∧∃n,wr=w.drewN n) (fun i _=>l1 - (intOf i).toNat)
   case atStart=>exact ⟨0,Nat.zero_le _,rfl,rfl,0,rfl⟩
   case round =>
    obtain ⟨k,hk,rfl,ht,n,rfl⟩:=hrel;have HT:Hid (z1.take k=z2.take k):=ht;clear ht;by_cases hlt:k < l1
    ·have c1:=G1.out k hlt;have c2:=G2.out k hlt;generalize hx:z1.getD k 0=x at c1;generalize hy:z2.getD k 0=y at c2;have HX:Hid (z1.getD k 0=x):=hx;have HY:Hid (z2.getD k 0=y):=hy;clear hx hy;by_cases hq:x=y
     ·subst hq;go_wp2
      go_quiet (fail)
      go_wp2
      go_roundw
      case rel=>exact ⟨k+1,by omega,by go_num,by rw [zas _ _ (by omega),zas _ _ (by omega),HT.out,HX.out,HY.out],_,rfl⟩
      case measure=>simp [intOf]; omega
     ·have hne:(x != y)=true:=by simp [hq]
      go_wp2
      go_quiet (fail)
      go_wp2;go_ret;exact ⟨zw (decide_eq_false (ne_at k (by rw [HX.out,HY.out]; exact hq))).symm,_,World.drewN_drewN _ _ _⟩
    ·go_wp2;go_ret;have hk':k=l1:=by omega
     exact ⟨zw (decide_eq_true (zdc (by omega) (by rw [s1,← hk']; exact HT.out))).symm,_,rfl⟩
 ·have hne:((l1:Int) != (l2:Int))=true:=by simp; omega
  have hz:¬z1=z2:=by intro e; rw [e] at s1; omega
  go_enter Tryz.func175,Tryz.ntmps175;go_wp2;go_ret;exact ⟨zw (decide_eq_false hz).symm,0,rfl⟩

def halfI (zs:List Int) (n k:Nat):List Value:=cI (zs.take k)++List.replicate (n - k) (.int .i64 0)

theorem zeI (zs:List Int) (n k:Nat) (h:zs.length=n) (hk:k≤n):(halfI zs n k).length=n:=by
 simp [halfI,zbk]; omega

theorem zg3 (zs:List Int) (n k:Nat) (h:zs.length=n) (hk:k < n):(halfI zs n k).set k (.int .i64 (zs.getD k 0))=halfI zs n (k+1):=by
 have hl:(cI (zs.take k)).length=k:=by simp [zbk]; omega
 unfold halfI;rw [List.set_append_right _ _ (by omega),hl,Nat.sub_self,zas _ _ (by omega),zbW];obtain ⟨m,hm⟩:∃m,n - k=m+1:=⟨n - k - 1,by omega⟩;have hm':n - (k+1)=m:=by omega
 rw [hm,hm',List.replicate_succ,List.set_cons_zero]
 simp [cI]

theorem zg2 (zs:List Int) (n:Nat) (h:zs.length=n):halfI zs n n=cI zs:=by
 simp [halfI,← h]

theorem zgs (zs:List Int) (n:Nat):halfI zs n 0=List.replicate n (.int .i64 0):=by
 simp [halfI,cI]

theorem zgU (a1:Option Addr) (l1 c1:Nat) (z1:List Int) (w:World) (h1:IRow w a1 l1 c1 z1) (hs:l1≤16777216) :
  Calls Tryz.prog 174 #[.slice a1 l1 c1] w fun e w'=>e=.returned (.slice (some ⟨w.heap.size,0,none⟩) l1 l1) ∧
   w'.ownsRow w.heap.size 3 1 (.slice (some ⟨w.heap.size,0,none⟩) l1 l1) l1 (cI z1)∧Below w.heap.size w w':=by
 obtain ⟨i0,hi,hz0,hz1,hz2⟩:=info_parts Tryz.infoI64;have s1:=h1.size;have hcell:=h1.cell;clear h1;go_enter Tryz.func174,Tryz.ntmps174;go_wp2_with (at_make; refine wpList_make_full _ rfl _ _ 27 rfl w.heap.size 3 i0 (.int .i64 0) 1 Tryz.underlying27 hi hz0 hz1 .i64 .i64 _ _ l1 rfl rfl rfl rfl ?c1 ?c2 ?c3 ?_)
 case c1=>rw [hz2]; omega
 case c2=>unfold maxLen; omega
 case c3=>exact Nat.le_refl _
 intro w1 hown hgrow;have hb1:Below w.heap.size w w1:=(Below.refl _ _).grown hgrow (Nat.le_refl _) (by intro k hk; cases hk);have hown1:w1.ownsRow w.heap.size 3 1 (.slice (some ⟨w.heap.size,0,none⟩) l1 l1) l1 (halfI z1 l1 0):=by
  rw [zgs,← toList_madeCells_one]; simpa [Value.cells] using hown
 clear hown hgrow hi hz0 hz1 hz2;go_wp2
 go_loopw [4] (fun i wr=>∃k:Nat,k≤l1∧i=.int .i64 k∧wr.ownsRow w.heap.size 3 1 (.slice (some ⟨w.heap.size,0,none⟩) l1 l1) l1 (halfI z1 l1 k)∧Below w.heap.size w wr) (fun i _=>l1 - (intOf i).toNat)
 case atStart=>exact ⟨0,Nat.zero_le _,rfl,hown1,hb1⟩
 case round =>
  obtain ⟨k,hk,rfl,hown,hb⟩:=hrel;by_cases hlt:k < l1
  ·rcases hcell with h0 | ⟨b,off,rfl,hc⟩
   ·omega
   have cx:wr.cell? ⟨b,off+k,none⟩=some (.int .i64 (z1.getD k 0)):=by rw [hb.cell (zp (hc k hlt))]; exact hc k hlt
   have cf:=hown.frozenAt k;have cc:∃u,wr.cell? ⟨w.heap.size,k,none⟩=some u:=by
    rw [hown.cellAt k (by omega)];exact ⟨_,List.getElem?_eq_getElem (by rw [zeI _ _ _ s1 (by omega)]; exact hlt)⟩
   obtain ⟨u,cu⟩:=cc;have R:=hown.stored k (.int .i64 (z1.getD k 0));rw [zg3 _ _ _ s1 hlt] at R;have hb':=hb.setCell (p:=⟨w.heap.size,k,none⟩) (Nat.le_refl _) (.int .i64 (z1.getD k 0));have HR:=R.1;generalize hx:z1.getD k 0=x at cx HR hb';have HX:Hid (z1.getD k 0=x):=hx;clear hx hc hown R hb hb1 hown1;go_wp2
   go_roundw
   case rel=>exact ⟨k+1,by omega,by go_num,HR,hb'⟩
   case measure=>simp [intOf]; omega
  ·have hk':k=l1:=by omega
   subst hk';rw [zg2 _ _ s1] at hown;go_wp2;go_ret;exact ⟨rfl,hown,hb⟩

def zaI (k:Int) (n:Nat):List Int:=(List.range n).map fun i:Nat=>(k+i)

theorem zct (k:Int) (n:Nat):(zaI k n).length=n:=by simp [zaI]
theorem zgx (k:Int) (n i:Nat) (h:i < n):(zaI k n).getD i 0=(k+i):=by
 simp [zaI,List.getD_eq_getElem?_getD,List.getElem?_map,List.getElem?_range h]
theorem zfz (k:Int) (n:Nat):zaI k (n+1)=zaI k n++[(k+n)]:=by
 simp [zaI,List.range_succ]
theorem zds (k:Int) (n:Nat) (h0:0≤k) (h1:k≤1099511627776) (hn:n≤16777216):I64s (zaI k n):=by
 intro z hz;simp only [zaI,List.mem_map,List.mem_range] at hz;obtain ⟨i,hi,rfl⟩:=hz;omega

def zbM (k:Int) (zs:List Int) (j:Nat):List Int:=zaI k j++zs.drop j

theorem zfy (k:Int) (zs:List Int) (j:Nat) (h:j < zs.length):(cI (zbM k zs j)).set j (.int .i64 ((k+j)))=cI (zbM k zs (j+1)):=by
 have hl:(cI (zaI k j)).length=j:=by rw [zbk,zct]
 unfold zbM;rw [zbW,List.set_append_right _ _ (by omega),hl,Nat.sub_self,zfz,zbW,zbW];rw [List.drop_eq_getElem_cons h];simp only [cI,List.map_cons,List.set_cons_zero,List.map_nil,List.append_assoc,List.cons_append,List.nil_append]

theorem zdM (k:Int) (zs:List Int) (j:Nat) (h:j≤zs.length):(zbM k zs j).length=zs.length:=by
 simp [zbM,zct]; omega

theorem zhb (base g n cap:Nat) (zs:List Int) (k:Int) (w:World) (hown:w.ownsRow base 3 1 (.slice (some ⟨g,0,none⟩) n cap) n (cI zs)) (hn:n≤16777216) (hk0:0≤k) (hk1:k≤1099511627776) :
  Calls Tryz.prog 101 #[.slice (some ⟨g,0,none⟩) n cap,.int .i64 k] w fun e w'=>e=.returned (.int .i64 (k+n)) ∧
   w'.ownsRow base 3 1 (.slice (some ⟨g,0,none⟩) n cap) n (cI (zaI k n))∧w.grownBy w' (some g):=by
 have hl:zs.length=n:=by have:=hown.1; simpa [cI] using this
 go_enter Tryz.func101,Tryz.ntmps101;go_wp2
 go_loopw [1,5] (fun m i wr=>∃j:Nat,j≤n∧i=.int .i64 j∧m=.int .i64 (k+j)∧wr.ownsRow base 3 1 (.slice (some ⟨g,0,none⟩) n cap) n (cI (zbM k zs j))∧w.grownBy wr (some g)) (fun _ i _=>n - (intOf i).toNat)
 case atStart=>exact ⟨0,Nat.zero_le _,rfl,by simp,by simpa [zbM,zaI] using hown,World.grownBy.refl _ _⟩
 case round =>
  obtain ⟨j,hj,rfl,rfl,how,hg⟩:=hrel;by_cases hlt:j < n
  ·have cf:=how.frozenAt j;have cc:∃u,wr.cell? ⟨g,j,none⟩=some u:=by
    rw [how.cellAt j (by omega)];exact ⟨_,List.getElem?_eq_getElem (by rw [zbk,zdM _ _ _ (by omega)]; omega)⟩
   obtain ⟨u,cu⟩:=cc;have R:=(how.stored j (.int .i64 ((k+j)))).1;rw [zfy _ _ _ (by omega)] at R;have hg':=zbf hg j (.int .i64 ((k+j)));clear how hg hown;go_wp2
   go_roundw
   case rel=>exact ⟨j+1,by omega,by go_num,by go_num,R,hg'⟩
   case measure=>simp [intOf]; omega
  ·have hj':j=n:=by omega
   subst hj';have hd:zbM k zs j=zaI k j:=by simp [zbM,← hl]
   rw [hd] at how;clear hd;go_wp2;go_ret;exact ⟨rfl,how,hg⟩

theorem zhc (k:Int) (w:World) :
  Calls Tryz.prog 101 #[.slice none 0 0,.int .i64 k] w fun e w'=>e=.returned (.int .i64 k)∧w'=w:=by
 go_enter Tryz.func101,Tryz.ntmps101;go_wp2
 go_loop [1,5] (fun m i=>m=.int .i64 k∧i=.int .i64 0) (fun _ _=>0)
 case atStart=>exact ⟨rfl,rfl⟩
 case round =>
  obtain ⟨rfl,rfl⟩:=hrel;go_wp2;go_ret;exact ⟨rfl,rfl⟩

theorem zeJ (ao:Option Addr) (n cap:Nat) (k:Int) (w:World) (h1:IRow w ao n cap (zaI k n)) (hn:n≤16777216) (hk0:0≤k) (hk1:k≤1099511627776) :
  Calls Tryz.prog 103 #[.slice ao n cap,.int .i64 k] w fun e w'=>e=.returned (.int .i64 (k+n))∧w'=w:=by
 have hcell:=h1.cell;clear h1;go_enter Tryz.func103,Tryz.ntmps103;go_wp2
 go_loop [1,5] (fun m i=>∃j:Nat,j≤n∧i=.int .i64 j∧m=.int .i64 (k+j)) (fun _ i=>n - (intOf i).toNat)
 case atStart=>exact ⟨0,Nat.zero_le _,rfl,by simp⟩
 case round =>
  obtain ⟨j,hj,rfl,rfl⟩:=hrel;by_cases hlt:j < n
  ·rcases hcell with h0 | ⟨b,off,rfl,hc⟩
   ·omega
   have cx:=hc j hlt;rw [zgx _ _ _ hlt] at cx;clear hc;go_wp2
   go_round
   case rel=>exact ⟨j+1,by omega,by go_num,by go_num⟩
   case measure=>simp [intOf]; omega
  ·have hj':j=n:=by omega
   subst hj';go_wp2;go_ret;exact ⟨rfl,rfl⟩

theorem zfY (a1:Option Addr) (l1 c1:Nat) (a2:Option Addr) (l2 c2:Nat) (zs:List Int) (w:World) (h1:IRow w a1 l1 c1 zs) (h2:IRow w a2 l2 c2 zs) :
  Calls Tryz.prog 175 #[.slice a1 l1 c1,.slice a2 l2 c2] w fun e w'=>e=.returned (.bool true)∧∃n,w'=w.drewN n:=by
 refine (zfl a1 l1 c1 zs a2 l2 c2 zs w h1 h2).mono ?_;rintro e w' ⟨rfl,n,rfl⟩;exact ⟨by simp,n,rfl⟩

theorem zQ {w:World} {base:Nat} {ao:Option Addr} {n cap:Nat} {zs:List Int} (h:w.ownsRow base 3 1 (.slice ao n cap) n (cI zs)) (hz:I64s zs):IRow w ao n cap zs:=by
 obtain ⟨ao',cap',e,hr⟩:=zch h hz;cases e;exact hr

theorem zci (base:Nat) (ao:Option Addr) (n cap:Nat) (zs:List Int) (k:Int) (w:World) (hown:w.ownsRow base 3 1 (.slice ao n cap) n (cI zs)) (hn:n≤16777216) (hk0:0≤k) (hk1:k≤1099511627776) :
  Calls Tryz.prog 101 #[.slice ao n cap,.int .i64 k] w fun e w'=>e=.returned (.int .i64 (k+n)) ∧
   w'.ownsRow base 3 1 (.slice ao n cap) n (cI (zaI k n))∧w.grownBy w' (Value.slice ao n cap).ownBlock:=by
 rcases hown.2 with ⟨h,h0⟩ | ⟨g,cap',cur,h,hg,h3⟩
 ·cases h;refine (zhc k w).mono ?_;rintro e w' ⟨rfl,rfl⟩;exact ⟨by simp,by simpa [zaI,cI] using World.ownsRow_nil _ _ _ _,World.grownBy.refl _ _⟩
 ·cases h;refine (zhb base g n cap zs k w hown hn hk0 hk1).mono ?_;rintro e w' ⟨rfl,ho,hgr⟩;exact ⟨rfl,ho,hgr⟩

theorem zgn (a1:Option Addr) (l1 c1:Nat) (z1:List Int) (w:World) (h1:IRow w a1 l1 c1 z1) (hs:l1≤16777216) :
  Calls Tryz.prog 174 #[.slice a1 l1 c1] w fun e w'=>∃ao cap,e=.returned (.slice ao l1 cap) ∧
   w'.ownsRow w.heap.size 3 1 (.slice ao l1 cap) l1 (cI z1)∧IRow w' ao l1 cap z1∧Below w.heap.size w w':=by
 refine (zgU a1 l1 c1 z1 w h1 hs).mono ?_;rintro e w' ⟨rfl,ho,hb⟩;exact ⟨_,_,rfl,ho,zQ ho h1.byte,hb⟩

def vrowF:Flat VR where
 k:=3
 cs:=fun e=>[.int .i64 e.i,.int .i64 e.m,.int .i64 e.b]
 len:=fun _=>rfl
 pos:=by decide
 one:=fun _ v hv=>by
  simp only [List.mem_cons,List.not_mem_nil,or_false] at hv;rcases hv with rfl | rfl | rfl <;> rfl

theorem zaD {w:World} {ao:Option Addr} {len cap:Nat} {l:List VR} (h:GRow vrowF w ao len cap l) (i:Nat) (hi:i < len):∃(x:VR) (b off:Nat),l[i]? = some x∧ao=some ⟨b,off,none⟩ ∧
  w.cell? ⟨b,off+i*3,none⟩=some (.int .i64 x.i)∧w.cell? ⟨b,off+i*3+1,none⟩=some (.int .i64 x.m)∧w.cell? ⟨b,off+i*3+2,none⟩=some (.int .i64 x.b):=by
 obtain ⟨x,b,off,hx,ha,hc⟩:=h.at i hi;exact ⟨x,b,off,hx,ha,hc 0 _ rfl,hc 1 _ rfl,hc 2 _ rfl⟩

structure VTab (w:World) (a:Option Addr) (n c:Nat) (o:Option Addr) (p q:Nat) (v:VT):Prop where
 rows:GRow vrowF w a n c v.rows
 own:IRow w o p q v.own

theorem VTab.below {w w':World} {a:Option Addr} {n c:Nat} {o:Option Addr} {p q:Nat} {v:VT} (h:VTab w a n c o p q v) (hb:Below w.heap.size w w'):VTab w' a n c o p q v :=
 ⟨h.rows.below hb,h.own.below hb⟩

structure BR where
 id:Int
 name:ByteArray
 ports:List PT
 f:List FE
 v:VT
 ticks:Int
 parse:Int
 word:Int
 drops:Int
 vers:Int

def in1m (x:Int):Bool:=decide (0≤x) && decide (x≤1000000)
def zaa (a b c d e:Int):Bool:=in1m a && (in1m b && (in1m c && (in1m d && in1m e)))
def zH (b:BR):Bool :=
 b.ports.all ptOk && (in3 b.id 1 99 && (decide ((b.name.size:Int)≤10) && (in3 (b.ports.length:Int) 1 6 && (fdbOk b.f && (zL b.v (b.ports.length:Int) && zaa b.ticks b.parse b.word b.drops b.vers)))))

structure BrRow (w:World) (a:Option Addr) (n c:Nat) (fa:Option Addr) (fn fc:Nat) (ra:Option Addr) (rn rc:Nat) (oa:Option Addr) (on oc:Nat) (b:BR):Prop where
 ports:GRow ptF w a n c b.ports
 f:GRow fentF w fa fn fc b.f
 v:VTab w ra rn rc oa on oc b.v

theorem BrRow.below {w w':World} {a:Option Addr} {n c:Nat} {fa:Option Addr} {fn fc:Nat} {ra:Option Addr} {rn rc:Nat} {oa:Option Addr} {on oc:Nat} {b:BR} (h:BrRow w a n c fa fn fc ra rn rc oa on oc b) (hb:Below w.heap.size w w'):BrRow w' a n c fa fn fc ra rn rc oa on oc b :=
 ⟨h.ports.below hb,h.f.below hb,h.v.below hb⟩

theorem zhU (x:Int):in1m x=true↔0≤x∧x≤1000000:=by
 unfold in1m
 simp

theorem za6 {b:BR} (h:zH b=true):b.ports.all ptOk=true∧in3 b.id 1 99=true∧(b.name.size:Int)≤10∧in3 (b.ports.length:Int) 1 6=true∧fdbOk b.f=true∧zL b.v (b.ports.length:Int)=true∧in1m b.ticks=true∧in1m b.parse=true∧in1m b.word=true∧in1m b.drops=true∧in1m b.vers=true:=by
 unfold zH zaa at h;simp only [Bool.and_eq_true,decide_eq_true_eq] at h;obtain ⟨h1,h2,h3,h4,h5,h6,h7,h8,h9,h10,h11⟩:=h;exact ⟨h1,h2,h3,h4,h5,h6,h7,h8,h9,h10,h11⟩

theorem zfh {b:BR} (h:b.ports.all ptOk=true∧in3 b.id 1 99=true∧(b.name.size:Int)≤10∧in3 (b.ports.length:Int) 1 6=true∧fdbOk b.f=true∧zL b.v (b.ports.length:Int)=true∧in1m b.ticks=true∧in1m b.parse=true∧in1m b.word=true∧in1m b.drops=true∧in1m b.vers=true):zH b=true:=by
 obtain ⟨h1,h2,h3,h4,h5,h6,h7,h8,h9,h10,h11⟩:=h;unfold zH zaa;rw [h1,h2,decide_eq_true h3,h4,h5,h6,h7,h8,h9,h10,h11]
 rfl

def nmI (l:List Int):List Int:=1::3::1::l
def numD (l:List Int) (n:Int):BD:=⟨nmI l,2,n,⟨#[]⟩,[]⟩
def nameD (s:ByteArray):BD:=⟨nmI [1,1],4,0,s,[]⟩

def portW (B:BR) (c:Int) (p:Nat) (x:PT):Int:=if c=1 then (if x.up=true then 1 else 0) else if c=2 then x.k else if c=3 then zav B.id B.ports (p:Int) else (B.v.own[p]?).getD 0
def rowW (r:VR) (c:Int):Int:=if c=1 then 1 else if c=2 then r.m else r.b

def zao {α:Type} (f:Nat→α→BD) (l:List α):Nat→List BD
 | 0=>[]
 | k+1=>match l[k]? with
  | some x=>zao f l k++[f k x]
  | none=>zao f l k
def zY (g:Int→List BD):Nat→List BD
 | 0=>[]
 | k+1=>zY g k++g ((k:Int)+1)

theorem zbL {α:Type} {f:Nat→α→BD} {l:List α} {k:Nat} {x:α} (h:l[k]? = some x):zao f l (k+1)=zao f l k++[f k x]:=by
 rw [zao,h]
theorem zap {α:Type} (f:Nat→α→BD) (l:List α):∀k,(zao f l k).length≤k
 | 0=>Nat.le_refl _
 | k+1=>by
  have:=zap f l k
  rw [zao]
  split
  ·rw [List.length_append]; simp; omega
  ·omega

def portB (B:BR) (c:Int) (p:Nat) (x:PT):BD:=numD [2,c,(p:Int)+1] (portW B c p x)
def rowB (c:Int) (_:Nat) (r:VR):BD:=numD [3,c,r.i] (rowW r c)
def entB (_:Nat) (e:FE):BD:=numD [4,1,e.t,e.m] (e.p+1)

def zam (B:BR):List BD:=[nameD B.name,numD [1,2] B.ticks,numD [1,3] B.parse,numD [1,4] B.word,numD [1,5] B.drops]
def zZ (B:BR) (c:Int):List BD:=zao (portB B c) B.ports B.ports.length
def zaC (B:BR) (c:Int):List BD:=zao (rowB c) B.v.rows B.v.rows.length
def zdt (B:BR):List BD:=zao entB B.f B.f.length
def zbS (B:BR):List BD:=zam B++zY (zZ B) 4++zY (zaC B) 3++zdt B
def zaf (B:BR):List BD:=if zH B=true then zbS B else []

def blkL (ao:Option Addr):List Nat:=match ao with | some a=>[a.block] | none=>[]

theorem zT {ao:Option Addr} {n c b:Nat}:(Value.slice ao n c).ownBlock=some b↔b∈blkL ao:=by
 cases ao <;> simp [Value.ownBlock,blkL,eq_comm]

structure Only (bs:List Nat) (w w':World):Prop where
 os:w'.os=w.os
 tape:w'.tape=w.tape
 output:w'.output=w.output
 size:w.heap.size≤w'.heap.size
 block:∀k,k < w.heap.size→k∉bs→w'.heap[k]? = w.heap[k]?

theorem Only.refl (bs:List Nat) (w:World):Only bs w w:=⟨rfl,rfl,rfl,Nat.le_refl _,fun _ _ _=>rfl⟩
theorem Only.trans {bs:List Nat} {a b c:World} (h:Only bs a b) (k:Only bs b c):Only bs a c :=
 ⟨k.os.trans h.os,k.tape.trans h.tape,k.output.trans h.output,Nat.le_trans h.size k.size,fun i hi hn=>(k.block i (Nat.lt_of_lt_of_le hi h.size) hn).trans (h.block i hi hn)⟩
theorem Only.wider {bs cs:List Nat} {a b:World} (h:Only bs a b) (hs:∀x∈bs,x∈cs):Only cs a b :=
 ⟨h.os,h.tape,h.output,h.size,fun k hk hn=>h.block k hk (fun hb=>hn (hs k hb))⟩
theorem Only.of_below {bs:List Nat} {a b:World} (h:Below a.heap.size a b):Only bs a b:=⟨h.os,h.tape,h.output,h.size,fun k hk _=>h.block k hk⟩
theorem Only.of_grown {ao:Option Addr} {n c:Nat} {a b:World} (h:a.grownBy b (Value.slice ao n c).ownBlock):Only (blkL ao) a b :=
 ⟨h.os,h.tape,h.output,h.size,fun k hk hn=>h.block k hk (fun e=>hn (zT.1 e.symm))⟩
theorem Only.set (w:World) (g j:Nat) (u:Value):Only [g] w (w.setCell ⟨g,j,none⟩ u) :=
 ⟨rfl,rfl,rfl,by simp,fun k _ hn=>Below.heap_setCell _ _ _ _ (by intro e; exact hn (by simp [e]))⟩
theorem Only.below {bs:List Nat} {w w':World} (h:Only bs w w') {B:Nat} (hB:B≤w.heap.size) (hs:∀b∈bs,B≤b):Below B w w' :=
 ⟨h.os,h.tape,h.output,h.size,fun k hk=>h.block k (by omega) (fun hb=>by have:=hs k hb; omega)⟩
theorem Only.kept {bs:List Nat} {w w':World} (h:Only bs w w') {i:Nat} {o:Obj} (hi:w.heap[i]? = some o) (hn:i∉bs):w'.heap[i]? = some o:=by
 rw [h.block i (Array.getElem?_eq_some_iff.1 hi).1 hn]; exact hi
theorem Only.own {bs:List Nat} {w w':World} {base:Nat} {e:TypeId} {size:Nat} {v:Value} {n:Nat} {xs:List Value} (h:Only bs w w') (ho:w.ownsRow base e size v n xs) (hn:∀k,v.ownBlock=some k→k∉bs):w'.ownsRow base e size v n xs:=by
 obtain ⟨hl,h0 | ⟨g,cap,cur,rfl,hg,hh,r⟩⟩:=ho
 ·exact ⟨hl,.inl h0⟩
 ·exact ⟨hl,.inr ⟨g,cap,cur,rfl,hg,h.kept hh (hn g rfl),r⟩⟩

theorem zdZ {w w':World} {base:Nat} {e:TypeId} {size:Nat} {v:Value} {n:Nat} {xs:List Value} (h:w.ownsRow base e size v n xs) (hb:Below w.heap.size w w'):w'.ownsRow base e size v n xs :=
 (Only.of_below (bs:=[]) hb).own h (by intro k _ hk; cases hk)
theorem zhi {w:World} {base:Nat} {e:TypeId} {size:Nat} {v:Value} {n:Nat} {xs:List Value} (h:w.ownsRow base e size v n xs) {base':Nat} (hle:base'≤base):w.ownsRow base' e size v n xs:=by
 obtain ⟨hl,h | ⟨g,cap,cur,rfl,hg,r⟩⟩:=h
 ·exact ⟨hl,.inl h⟩
 ·exact ⟨hl,.inr ⟨g,cap,cur,rfl,by omega,r⟩⟩

theorem zbD {w:World} {base base':Nat} {e e':TypeId} {s s':Nat} {v v':Value} {n n':Nat} {xs xs':List Value} (h:w.ownsRow base e s v n xs) (h':w.ownsRow base' e' s' v' n' xs') (hne:e≠e') {k:Nat} (hk:v.ownBlock=some k):v'.ownBlock≠some k:=by
 intro hk';rcases h.2 with ⟨rfl,_⟩ | ⟨g,cap,cur,rfl,_,hh,_⟩
 ·cases hk
 ·rcases h'.2 with ⟨rfl,_⟩ | ⟨g',cap',cur',rfl,_,hh',_⟩
  ·cases hk'
  ·simp only [Value.ownBlock,Option.some.injEq] at hk hk';subst hk hk';rw [hh] at hh';cases hh';exact hne rfl

theorem za0 (a:Option Addr) (n c:Nat) (l:List VR) (o:Option Addr) (p q:Nat) (id:Int) (w:World) (h:GRow vrowF w a n c l) :
  Calls Tryz.prog 134 #[.agg #[.slice a n c,.slice o p q],.int .i64 id] w fun r w'=>r=.returned (.int .i64 (rowAt l id))∧Below w.heap.size w w':=by
 have hle:=h.le;have htop:=h.top;unfold maxLen at htop;have hsz:=h.size;have hW:Below w.heap.size w (w.alloc (Obj.cells #[Value.slice a n c,Value.slice o p q] 29)):=zh _ _;have h:=h.below hW;go_enter Tryz.func134,Tryz.ntmps134;go_wp2
 go_loop [5] (fun i=>∃k:Nat,k≤n∧i=.int .i64 k∧∀(j:Nat) (y:VR),j < k→l[j]? = some y→(y.i == id)=false) (fun i=>n - (intOf i).toNat)
 case atStart=>exact ⟨0,Nat.zero_le _,rfl,fun j y hj=>by omega⟩
 case round =>
  obtain ⟨k,hk,rfl,hno⟩:=hrel;by_cases hlt:k < n
  ·obtain ⟨x,b,off,hx,rfl,c0,-,-⟩:=zaD h k hlt;cases t1:(x.i == id)
   ·have HO:=hide (zge hno hx t1);clear hno;go_wp2
    go_round
    case rel=>exact ⟨k+1,by omega,by go_num,HO.out⟩
    case measure=>simp [intOf]; omega
   ·have HF:=hide (zdA hno hx t1);clear hno;go_wp2;go_ret;exact ⟨(by rw [HF.out]; rfl),hW⟩
  ·have hkn:k=n:=by omega
   have HF:=hide (zd3 (l:=l) (id:=id) (fun i y hy=>hno i y (by have:=(List.getElem?_eq_some_iff.1 hy).1; omega) hy));clear hno;subst hkn;go_wp2;go_ret;exact ⟨(by rw [HF.out]; rfl),hW⟩

theorem zaO {K:World→Prop} {W:World} {o:Obj} (h:∀wx,wx.heap[W.heap.size]? = some o→Below W.heap.size W wx→K wx):K (W.alloc o):=h _ (zy W o) (zh W o)

theorem zaB {K:World→Prop} {W:World} {o:Obj} (h:∀wx,wx.heap[W.heap.size]? = some o→Below W.drew.heap.size W.drew wx→K wx):K (W.alloc o).drew:=h _ (zy W o) (zh W.drew o)

theorem zfS (R C H B P R' C' H' B' P':Int) (w:World):(binOp .eql 111 (.agg #[.int .i64 R,.int .i64 C,.int .i64 H,.int .i64 B,.int .i64 P]) (.agg #[.int .i64 R',.int .i64 C',.int .i64 H',.int .i64 B',.int .i64 P'])).run Tryz.prog w=.ok (.bool ((R == R') && ((C == C') && ((H == H') && ((B == B') && (P == P')))))) w:=by
 have u3:=Tryz.underlying3;have a3:=Tryz.isAgg3;have z3:=Tryz.sizeOf3;have hS:Tryz.prog.underlying 111=some (.struct (Tryz.prog.fieldsOf 111)):=by kernel_rfl
 have hp:Tryz.prog.stoodInHeld 111=false:=by kernel_rfl
 rw [run_eql_struct,show (10000:Nat)=9999+1 from rfl,run_equalIn_agg w 9999 111 _ _ hS hp];simp only [Program.fieldsOf,Tryz.underlying111];go_simp;by_cases h1:R=R' <;> by_cases h2:C=C' <;> by_cases h3:H=H' <;> by_cases h4:B=B' <;> by_cases h5:P=P' <;> simp [h1,h2,h3,h4,h5]

theorem zbQ {w:World} {g:Nat} {T:TypeId} {c0 c1 c2 c3 c4 c5 c6 c7:Value} (h:w.heap[g]? = some (.cells #[c0,c1,c2,c3,c4,c5,c6,c7] T)) :
  w.cell? ⟨g,0,none⟩=some c0∧w.cell? ⟨g,1,none⟩=some c1∧w.cell? ⟨g,2,none⟩=some c2∧w.cell? ⟨g,3,none⟩=some c3∧w.cell? ⟨g,4,none⟩=some c4∧w.cell? ⟨g,5,none⟩=some c5∧w.cell? ⟨g,6,none⟩=some c6∧w.cell? ⟨g,7,none⟩=some c7:=by
 simp [World.cell?,h]

theorem zcP (x:PT) (w:World) :
  Calls Tryz.prog 126 #[.agg #[.bool x.up,.int .i64 x.k,.bool x.has,.int .i64 x.v.r,.int .i64 x.v.c,.int .i64 x.v.h,.int .i64 x.v.b,.int .i64 x.v.p]] w fun e w'=>e=.returned (.bool (ptOk x))∧Below w.heap.size w w':=by
 have he:∀W,(binOp .eql 111 (.agg #[.int .i64 x.v.r,.int .i64 x.v.c,.int .i64 x.v.h,.int .i64 x.v.b,.int .i64 x.v.p]) (.agg #[.int .i64 0,.int .i64 0,.int .i64 0,.int .i64 0,.int .i64 0])).run Tryz.prog W=.ok (.bool (zdI x.v)) W:=fun W=>by rw [zfS]; rfl
 have hgd:Tryz.prog.eqGuardType Tryz.prog.depth 111=false:=by kernel_rfl
 obtain ⟨up,k,has,⟨r,c,h,b,p⟩⟩:=x
 simp only at he ⊢
 generalize hw1:w.alloc (.cells #[.bool up,.int .i64 k,.bool has,.int .i64 r,.int .i64 c,.int .i64 h,.int .i64 b,.int .i64 p] 113)=w1;have q0:=zb hw1;obtain ⟨c0,c1,c2,c3,c4,c5,c6,c7⟩:=zbQ (by rw [← hw1]; exact zy w _:w1.heap[w.heap.size]? = _);cases t1:(decide (1≤k) && decide (k≤1000))
 ·have T1:=hide t1;rw [show ptOk ⟨up,k,has,⟨r,c,h,b,p⟩⟩=false by unfold ptOk; rw [t1]; rfl];clear t1;go_enter Tryz.func126,Tryz.ntmps126;(go_wp2_with fail);refine (zg k 1 1000 _).mono ?_;rintro e w2 ⟨rfl,rfl⟩;rw [T1.out];go_wp2;go_ret;exact ⟨rfl,q0⟩
 cases has
 ·rw [show ptOk ⟨up,k,false,⟨r,c,h,b,p⟩⟩=zdI ⟨r,c,h,b,p⟩ by unfold ptOk; rw [t1]; cases up <;> rfl];have T1:=hide t1;generalize zdI ⟨r,c,h,b,p⟩=Q at *;clear t1;cases up <;>
  ·go_enter Tryz.func126,Tryz.ntmps126;(go_wp2_with fail);refine (zg k 1 1000 _).mono ?_;rintro e w2 ⟨rfl,rfl⟩;rw [T1.out];go_wp2;go_ret;exact ⟨rfl,q0⟩
 cases up
 ·rw [show ptOk ⟨false,k,true,⟨r,c,h,b,p⟩⟩=false by unfold ptOk; rw [t1]; rfl];have T1:=hide t1;clear t1;go_enter Tryz.func126,Tryz.ntmps126;(go_wp2_with fail);refine (zg k 1 1000 _).mono ?_;rintro e w2 ⟨rfl,rfl⟩;rw [T1.out];go_wp2;go_ret;exact ⟨rfl,q0⟩
 ·rw [show ptOk ⟨true,k,true,⟨r,c,h,b,p⟩⟩=okVc r c h b p by unfold ptOk; rw [t1]; rfl];have T1:=hide t1;clear t1;go_enter Tryz.func126,Tryz.ntmps126;(go_wp2_with fail);refine (zg k 1 1000 _).mono ?_;rintro e w2 ⟨rfl,rfl⟩;rw [T1.out];(go_wp2_with fail);refine (zaA r c h b p _).mono ?_;rintro e w3 ⟨rfl,hb3⟩;have HB:=hide (zd q0 hb3);clear hb3;go_wp2;go_ret;exact ⟨rfl,HB.out⟩

theorem zag (e:FE) (w:World) :
  Calls Tryz.prog 189 #[.agg #[.int .i64 e.t,.int .i64 e.m,.int .i64 e.p,.int .i64 e.a,.bool e.s]] w fun r w'=>r=.returned (.bool (entOk e))∧Below w.heap.size w w':=by
 generalize hP:entOk e=Q;unfold entOk at hP;cases t1:(decide (1≤e.t) && decide (e.t≤99))
 ·have h:Q=false:=by rw [← hP,t1]; rfl
  subst h;have T1:=hide t1;clear hP t1;go_enter Tryz.func189,Tryz.ntmps189;(go_wp2_with fail);refine (zg e.t 1 99 _).mono ?_;rintro r w1 ⟨rfl,rfl⟩;rw [T1.out];go_wp2;go_ret;exact ⟨rfl,zh _ _⟩
 cases t2:(decide (1≤e.m) && decide (e.m≤9999))
 ·have h:Q=false:=by rw [← hP,t1,t2]; rfl
  subst h;have T1:=hide t1;have T2:=hide t2;clear hP t1 t2;go_enter Tryz.func189,Tryz.ntmps189;(go_wp2_with fail);refine (zg e.t 1 99 _).mono ?_;rintro r w1 ⟨rfl,rfl⟩;rw [T1.out];(go_wp2_with fail);refine (zg e.m 1 9999 _).mono ?_;rintro r w2 ⟨rfl,rfl⟩;rw [T2.out];go_wp2;go_ret;exact ⟨rfl,zh _ _⟩
 cases t3:(decide (0≤e.p) && decide (e.p≤7))
 ·have h:Q=false:=by rw [← hP,t1,t2,t3]; rfl
  subst h;have T1:=hide t1;have T2:=hide t2;have T3:=hide t3;clear hP t1 t2 t3;go_enter Tryz.func189,Tryz.ntmps189;(go_wp2_with fail);refine (zg e.t 1 99 _).mono ?_;rintro r w1 ⟨rfl,rfl⟩;rw [T1.out];(go_wp2_with fail);refine (zg e.m 1 9999 _).mono ?_;rintro r w2 ⟨rfl,rfl⟩;rw [T2.out];(go_wp2_with fail);refine (zg e.p 0 7 _).mono ?_;rintro r w3 ⟨rfl,rfl⟩;rw [T3.out];go_wp2;go_ret;exact ⟨rfl,zh _ _⟩
 cases t4:(decide (0≤e.a) && decide (e.a≤4))
 ·have h:Q=false:=by rw [← hP,t1,t2,t3,t4]; rfl
  subst h;have T1:=hide t1;have T2:=hide t2;have T3:=hide t3;have T4:=hide t4;clear hP t1 t2 t3 t4;go_enter Tryz.func189,Tryz.ntmps189;(go_wp2_with fail);refine (zg e.t 1 99 _).mono ?_;rintro r w1 ⟨rfl,rfl⟩;rw [T1.out];(go_wp2_with fail);refine (zg e.m 1 9999 _).mono ?_;rintro r w2 ⟨rfl,rfl⟩;rw [T2.out];(go_wp2_with fail);refine (zg e.p 0 7 _).mono ?_;rintro r w3 ⟨rfl,rfl⟩;rw [T3.out];(go_wp2_with fail);refine (zg e.a 0 4 _).mono ?_;rintro r w4 ⟨rfl,rfl⟩;rw [T4.out];go_wp2;go_ret;exact ⟨rfl,zh _ _⟩
 rw [t1,t2,t3,t4,Bool.true_and,Bool.true_and,Bool.true_and,Bool.true_and] at hP;have T1:=hide t1;have T2:=hide t2;have T3:=hide t3;have T4:=hide t4;clear t1 t2 t3 t4;cases hs:e.s
 ·rw [hs] at hP;have h:Q=true:=by rw [← hP]; rfl
  subst h;clear hP;go_enter Tryz.func189,Tryz.ntmps189;(go_wp2_with fail);refine (zg e.t 1 99 _).mono ?_;rintro r w1 ⟨rfl,rfl⟩;rw [T1.out];(go_wp2_with fail);refine (zg e.m 1 9999 _).mono ?_;rintro r w2 ⟨rfl,rfl⟩;rw [T2.out];(go_wp2_with fail);refine (zg e.p 0 7 _).mono ?_;rintro r w3 ⟨rfl,rfl⟩;rw [T3.out];(go_wp2_with fail);refine (zg e.a 0 4 _).mono ?_;rintro r w4 ⟨rfl,rfl⟩;rw [T4.out];go_wp2;go_ret;exact ⟨rfl,zh _ _⟩
 ·rw [hs,Bool.not_true,Bool.false_or] at hP;have HP:=hide hP;clear hP;go_enter Tryz.func189,Tryz.ntmps189;(go_wp2_with fail);refine (zg e.t 1 99 _).mono ?_;rintro r w1 ⟨rfl,rfl⟩;rw [T1.out];(go_wp2_with fail);refine (zg e.m 1 9999 _).mono ?_;rintro r w2 ⟨rfl,rfl⟩;rw [T2.out];(go_wp2_with fail);refine (zg e.p 0 7 _).mono ?_;rintro r w3 ⟨rfl,rfl⟩;rw [T3.out];(go_wp2_with fail);refine (zg e.a 0 4 _).mono ?_;rintro r w4 ⟨rfl,rfl⟩;rw [T4.out];go_wp2;go_ret;exact ⟨zw HP.out,zh _ _⟩

theorem zbh (e:FE) (t m:Int) (w:World) :
  Calls Tryz.prog 201 #[.agg #[.int .i64 e.t,.int .i64 e.m,.int .i64 e.p,.int .i64 e.a,.bool e.s],.int .i64 t,.int .i64 m] w fun r w'=>r=.returned (.bool (ahead e t m))∧Below w.heap.size w w':=by
 unfold ahead;cases t1:(e.t != t)
 ·rw [if_neg Bool.false_ne_true];go_enter Tryz.func201,Tryz.ntmps201;go_wp2;go_ret;exact ⟨rfl,zh _ _⟩
 ·rw [if_pos rfl];go_enter Tryz.func201,Tryz.ntmps201;go_wp2;go_ret;exact ⟨rfl,zh _ _⟩

def okTo (l:List FE) (k:Nat):Prop:=∀i x,i < k→l[i]? = some x→entOk x=true∧∀y,0 < i→l[i - 1]? = some y→ahead y x.t x.m=true

theorem zcH:∀(l:List FE),rises l=true↔okTo l l.length
 | []=>by simp [rises,okTo]
 | [e]=>by
  simp only [rises,okTo,List.length_singleton]
  constructor
  ·intro h i x hi hx;have h0:i=0:=by omega
   subst h0
   simp at hx
   subst hx;exact ⟨h,fun y hy=>by omega⟩
  ·intro h;exact (h 0 e (by omega) rfl).1
 | e::f::r=>by
  have ih:=zcH (f::r);unfold rises;simp only [Bool.and_eq_true,ih]
  constructor
  ·rintro ⟨h1,h2,h3⟩ i x hi hx
   match i,hx with
   | 0,hx =>
    simp at hx
    subst hx;exact ⟨h1,fun y hy=>by omega⟩
   | 1,hx =>
    simp at hx
    subst hx;refine ⟨(h3 0 f (by simp) rfl).1,fun y _ hy => ?_⟩
    simp at hy
    subst hy;exact h2
   | i+2,hx =>
    obtain ⟨a1,a2⟩:=h3 (i+1) x (by simp at hi ⊢; omega) (by simpa using hx);exact ⟨a1,fun y _ hy=>a2 y (by omega) (by simpa using hy)⟩
  ·intro h;refine ⟨(h 0 e (by simp) rfl).1,(h 1 f (by simp) rfl).2 e (by omega) rfl,fun i x hi hx => ?_⟩;obtain ⟨a1,a2⟩:=h (i+1) x (by simp at hi ⊢; omega) (by simpa using hx);refine ⟨a1,fun y hy hz=>a2 y (by omega) ?_⟩;obtain ⟨j,rfl⟩:∃j,i=j+1:=⟨i - 1,by omega⟩
   simpa using hz

theorem zcu {l:List FE} {k:Nat} {x:FE} (h:okTo l k) (hx:l[k]? = some x) (h1:entOk x=true) (h2:∀y,0 < k→l[k - 1]? = some y→ahead y x.t x.m=true):okTo l (k+1):=by
 intro i z hi hz;by_cases e:i=k
 ·subst e;rw [hx] at hz;cases hz;exact ⟨h1,h2⟩
 ·exact h i z (by omega) hz

theorem zcn {l:List FE} (h:¬okTo l l.length):fdbOk l=false:=by
 unfold fdbOk
 have:rises l=false:=by
  cases hr:rises l
  ·rfl
  ·exact absurd ((zcH l).1 hr) h
 rw [this]
 rfl

theorem zeE {l:List FE} (h:okTo l l.length):fdbOk l=decide ((l.length:Int)≤12):=by
 unfold fdbOk;rw [(zcH l).2 h]
 rfl

end Go.Proofs.YtcpdkcdfnpcemaaGreat
