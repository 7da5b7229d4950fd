/-
  Packed: DrawOid SameStr EqRows Big.
-/
import Derived.Test.YtcpdkcdfnpcemaaGreatPRK05
namespace Go.Proofs.YtcpdkcdfnpcemaaGreat
set_option maxRecDepth 100000
set_option maxHeartbeats 16000000
open Go.RowKit

theorem Went.ownI {a b:World} {C:Nat} {a0:Option Addr} {l0 c0:Nat} {z0:List Int} (h:Went a b C a0 l0 c0 z0) {base:Nat} {v:Value} {n:Nat} {xs:List Value} (ho:a.ownsRow base 3 1 v n xs) (hC:C < base):b.ownsRow base 3 1 v n xs :=
 ze7 ho h.grown (by intro k hk; cases hk; exact hC)

def OkNs (zs:List Int):Prop:=∀z∈zs,0≤z∧z≤100000

theorem OkNs.i64 {zs:List Int} (h:OkNs zs):I64s zs:=fun z hz=>by have:=h z hz; omega
theorem OkNs.snoc {zs:List Int} {x:Int} (h:OkNs zs) (hx:0≤x∧x≤100000):OkNs (zs++[x]):=by
 intro z hz;rcases List.mem_append.1 hz with h1 | h1
 ·exact h z h1
 ·simp at h1; rw [h1]; exact hx

def zjf (w w':World) (C:Nat) (a0:Option Addr) (l0 c0:Nat) (z0:List Int) (lo hi:Nat) (p:List Int→Prop) (e:Ending):Prop :=
 ∃ao n cap zs,e=.returned (.slice ao n cap)∧lo≤n∧n≤hi∧zs.length=n∧p zs∧w'.ownsRow w.heap.size 3 1 (.slice ao n cap) n (cI zs)∧Went w w' C a0 l0 c0 z0

theorem zdK (C:Nat) (a0:Option Addr) (l0 c0:Nat) (z0:List Int) (w:World) (hc:Cur w C a0 l0 c0 z0) :
  Calls Tryz.prog 113 #[.pointer (some ⟨C,0,none⟩)] w fun e w'=>zjf w w' C a0 l0 c0 z0 1 6 OkNs e:=by
 have hlt:=hc.lt;have hst:=Went.start hc ((Below.refl w.heap.size w).alloc (Nat.le_refl _) (.cells #[] 3));have hown0:(w.alloc (.cells #[] 3)).ownsRow w.heap.size 3 1 (.slice (some ⟨w.heap.size,0,none⟩) 0 0) 0 (cI []):=World.ownsRow_lit w #[] 0 (Nat.le_refl _) (Nat.zero_le _) rfl;go_enter Tryz.func113,Tryz.ntmps113;go_wp2_with fail
 refine (zL C a0 l0 c0 z0 6 _ hst.cur (by omega)).mono ?_;rintro e w1 ⟨x,rfl,hx0,hx1,hx2,went1⟩;have hx6:=hx1 (by omega);obtain ⟨m,rfl⟩:∃m:Nat,x=m:=⟨x.toNat,by omega⟩;have how1:=went1.ownI hown0 hlt;have wn1:=hst.trans went1;clear hx1 hx2 hown0 hst went1;go_wp2
 go_loopw [3,4] (fun v i wr=>∃(k j:Nat) (zs:List Int) (ao:Option Addr) (cap:Nat),k+j=1+m∧i=.int .i64 j∧v=.slice ao k cap∧zs.length=k∧OkNs zs∧wr.ownsRow w.heap.size 3 1 (.slice ao k cap) k (cI zs)∧Went w wr C a0 l0 c0 z0) (fun _ i _=>(intOf i).toNat)
 case atStart=>exact ⟨0,1+m,[],_,_,by omega,by simp,rfl,rfl,(by intro z hz; cases hz),how1,wn1⟩
 case round =>
  obtain ⟨k,j,zs,ao,cap,hk,rfl,rfl,hz,hok,how,went⟩:=hrel;clear how1 wn1;by_cases hj:0 < j
  ·(go_wp2_with fail);refine (zbN C a0 l0 c0 z0 [0,1,2,3,127,128,16384,100000] _ _ wr went.cur rfl rfl (by simp) (by simp)).mono ?_;rintro e w2 ⟨y,hy,rfl,went2⟩;have hy':0≤y∧y≤100000:=by simp at hy; omega
   clear hy;have how2:=went2.ownI how hlt;have wn2:=went.trans went2;have hs2:=wn2.grown.size;clear how went went2;go_wp2_with (at_builtin; refine zcY _ rfl _ _ 27 rfl w.heap.size Tryz.underlying27 Tryz.infoI64 _ k zs rfl (how2.alloc _) hok.i64 _ 1 1 [y] rfl (zil w2 y (by omega)) (by omega) (by simp; omega) ?_)
   intro ao3 cp3 w3 how3 row3 hb3;have wn3:Went w w3 C a0 l0 c0 z0:=(wn2.made ((Below.refl _ _).alloc (Nat.le_refl _) _)).madeAt hb3 hlt (Nat.le_refl _);clear how2 hb3 row3;go_wp2
   go_roundw
   case rel=>exact ⟨k+1,j - 1,zs++[y],ao3,cp3,by omega,by go_num,rfl,by simp; omega,hok.snoc hy',how3,wn3⟩
   case measure=>simp [intOf]; omega
  ·have hj0:¬(0:Int) < j:=by omega
   go_wp2;go_ret;exact ⟨ao,k,cap,zs,rfl,by omega,by omega,hz,hok,how,went⟩

theorem IRow.belowAt {w3 w w':World} {ao:Option Addr} {len cap:Nat} {zs:List Int} (h:IRow w ao len cap zs) (h3:IRow w3 ao len cap zs) (hb:Below w3.heap.size w w'):IRow w' ao len cap zs where
 size:=h.size
 le:=h.le
 top:=h.top
 nil:=h.nil
 byte:=h.byte
 cell:=by
  rcases h.cell with h0 | ⟨b,off,ha,hc⟩
  ·exact .inl h0
  ·refine .inr ⟨b,off,ha,fun i hi => ?_⟩;rcases h3.cell with h0 | ⟨b',off',ha',hc'⟩
   ·omega
   ·rw [ha] at ha';cases ha';have h1:b < w3.heap.size:=zu (hc' i hi);rw [hb.cell (p:=⟨b,off+i,none⟩) h1];exact hc i hi

def zfl (x y:VD):Bool:=(x.r == y.r) && ((x.c == y.c) && ((x.h == y.h) && ((x.b == y.b) && (x.p == y.p))))
def zfk (x y:PT):Bool:=(x.up == y.up) && ((x.k == y.k) && ((x.has == y.has) && zfl x.v y.v))
def zfj (x y:FE):Bool:=(x.t == y.t) && ((x.m == y.m) && ((x.p == y.p) && ((x.a == y.a) && (x.s == y.s))))
def zfm (x y:VR):Bool:=(x.i == y.i) && ((x.m == y.m) && (x.b == y.b))

theorem zei (x y:PT):zfk x y=true↔x=y:=by
 obtain ⟨u,k,h,⟨r,c,hh,b,p⟩⟩:=x;obtain ⟨u',k',h',⟨r',c',hh',b',p'⟩⟩:=y
 simp [zfk,zfl]

theorem zeh (x y:FE):zfj x y=true↔x=y:=by
 obtain ⟨t,m,p,a,s⟩:=x;obtain ⟨t',m',p',a',s'⟩:=y
 simp [zfj]

theorem zej (x y:VR):zfm x y=true↔x=y:=by
 obtain ⟨i,m,b⟩:=x;obtain ⟨i',m',b'⟩:=y
 simp [zfm]

theorem zeW (x y:FE) (w:World):(binOp .neq 116 (.agg #[.int .i64 x.t,.int .i64 x.m,.int .i64 x.p,.int .i64 x.a,.bool x.s]) (.agg #[.int .i64 y.t,.int .i64 y.m,.int .i64 y.p,.int .i64 y.a,.bool y.s])).run Tryz.prog w=.ok (.bool (!zfj x y)) w:=by
 have u3:=Tryz.underlying3;have a3:=Tryz.isAgg3;have z3:=Tryz.sizeOf3;have u4:=Tryz.underlying4;have a4:=Tryz.isAgg4;have z4:=Tryz.sizeOf4;have hS:Tryz.prog.underlying 116=some (.struct (Tryz.prog.fieldsOf 116)):=by kernel_rfl
 have hp:Tryz.prog.stoodInHeld 116=false:=by kernel_rfl
 rw [run_neq_struct,show (10000:Nat)=9999+1 from rfl,run_equalIn_agg w 9999 116 _ _ hS hp];simp only [Program.fieldsOf,Tryz.underlying116];unfold zfj;go_simp;by_cases h1:x.t=y.t <;> by_cases h2:x.m=y.m <;> by_cases h3:x.p=y.p <;> by_cases h4:x.a=y.a <;> by_cases h5:x.s=y.s <;> simp [h1,h2,h3,h4,h5]

theorem zfs (x y:VR) (w:World):(binOp .neq 119 (.agg #[.int .i64 x.i,.int .i64 x.m,.int .i64 x.b]) (.agg #[.int .i64 y.i,.int .i64 y.m,.int .i64 y.b])).run Tryz.prog w=.ok (.bool (!zfm x y)) w:=by
 have u3:=Tryz.underlying3;have a3:=Tryz.isAgg3;have z3:=Tryz.sizeOf3;have hS:Tryz.prog.underlying 119=some (.struct (Tryz.prog.fieldsOf 119)):=by kernel_rfl
 have hp:Tryz.prog.stoodInHeld 119=false:=by kernel_rfl
 rw [run_neq_struct,show (10000:Nat)=9999+1 from rfl,run_equalIn_agg w 9999 119 _ _ hS hp];simp only [Program.fieldsOf,Tryz.underlying119];unfold zfm;go_simp;by_cases h1:x.i=y.i <;> by_cases h2:x.m=y.m <;> by_cases h3:x.b=y.b <;> simp [h1,h2,h3]

theorem zhD (x y:PT) (w:World):(binOp .neq 113 (.agg #[.bool x.up,.int .i64 x.k,.bool x.has,.int .i64 x.v.r,.int .i64 x.v.c,.int .i64 x.v.h,.int .i64 x.v.b,.int .i64 x.v.p]) (.agg #[.bool y.up,.int .i64 y.k,.bool y.has,.int .i64 y.v.r,.int .i64 y.v.c,.int .i64 y.v.h,.int .i64 y.v.b,.int .i64 y.v.p])).run Tryz.prog w=.ok (.bool (!zfk x y)) w:=by
 have u3:=Tryz.underlying3;have a3:=Tryz.isAgg3;have z3:=Tryz.sizeOf3;have u4:=Tryz.underlying4;have a4:=Tryz.isAgg4;have z4:=Tryz.sizeOf4;have u5:=Tryz.underlying111;have a5:=Tryz.isAgg111;have z5:=Tryz.sizeOf111;have hS:Tryz.prog.underlying 113=some (.struct (Tryz.prog.fieldsOf 113)):=by kernel_rfl
 have hp:Tryz.prog.stoodInHeld 113=false:=by kernel_rfl
 have hS5:Tryz.prog.underlying 111=some (.struct (Tryz.prog.fieldsOf 111)):=by kernel_rfl
 have hp5:Tryz.prog.stoodInHeld 111=false:=by kernel_rfl
 have hE:∀W,(Op.equalIn 9999 111 (.agg #[.int .i64 x.v.r,.int .i64 x.v.c,.int .i64 x.v.h,.int .i64 x.v.b,.int .i64 x.v.p]) (.agg #[.int .i64 y.v.r,.int .i64 y.v.c,.int .i64 y.v.h,.int .i64 y.v.b,.int .i64 y.v.p])).run Tryz.prog W=.ok (zfl x.v y.v) W:=by
  intro W;rw [show (9999:Nat)=9998+1 from rfl,run_equalIn_agg W 9998 111 _ _ hS5 hp5];simp only [Program.fieldsOf,Tryz.underlying111];unfold zfl;clear hS hp hS5 hp5 u4 a4 z4 u5 a5 z5;go_simp;by_cases h1:x.v.r=y.v.r <;> by_cases h2:x.v.c=y.v.c <;> by_cases h3:x.v.h=y.v.h <;> by_cases h4:x.v.b=y.v.b <;> by_cases h5:x.v.p=y.v.p <;> simp [h1,h2,h3,h4,h5]
 rw [run_neq_struct,show (10000:Nat)=9999+1 from rfl,run_equalIn_agg w 9999 113 _ _ hS hp];simp only [Program.fieldsOf,Tryz.underlying113];unfold zfk;generalize hV:zfl x.v y.v=V at *;clear hS hp hS5 hp5 hV;go_simp;by_cases h1:x.up=y.up <;> by_cases h2:x.k=y.k <;> by_cases h3:x.has=y.has <;> cases V <;> simp [h1,h2,h3]

theorem zib (a b c d e a' b' c' d' e':Int) (w:World):(binOp .eql 120 (.agg #[.int .i64 a,.int .i64 b,.int .i64 c,.int .i64 d,.int .i64 e]) (.agg #[.int .i64 a',.int .i64 b',.int .i64 c',.int .i64 d',.int .i64 e'])).run Tryz.prog w=.ok (.bool ((a == a') && ((b == b') && ((c == c') && ((d == d') && (e == e')))))) w:=by
 have u3:=Tryz.underlying3;have a3:=Tryz.isAgg3;have z3:=Tryz.sizeOf3;obtain ⟨i0,hi,-,-,-⟩:=zbB (k:=1) Tryz.infoI64;have hc:Tryz.prog.cellsOf 3=1:=by kernel_rfl
 rw [run_eql_struct,show (10000:Nat)=9999+1 from rfl,run_equalIn_array w 9999 _ _ Tryz.underlying120 hi,hc];simp only [show List.range 5=[0,1,2,3,4] from rfl,Op.eqItems];go_simp;by_cases h1:a=a' <;> by_cases h2:b=b' <;> by_cases h3:c=c' <;> by_cases h4:d=d' <;> by_cases h5:e=e' <;> simp [h1,h2,h3,h4,h5]

theorem zcI (a:Option Addr) (n c:Nat) (l:List PT) (a2:Option Addr) (n2 c2:Nat) (l2:List PT) (w:World) (h:GRow ptF w a n c l) (h2:GRow ptF w a2 n2 c2 l2) :
  Calls Tryz.prog 60 #[.slice a n c,.slice a2 n2 c2] w fun e w'=>∃q:Bool,e=.returned (.bool q)∧(q=true↔l=l2)∧Below w.heap.size w w':=by
 have hle:=h.le;have htop:=h.top;have hle2:=h2.le;have htop2:=h2.top;unfold maxLen at htop htop2;have hsz:=h.size;have hsz2:=h2.size;by_cases hnn:n=n2
 ·subst hnn;go_enter Tryz.func60,Tryz.ntmps60;go_wp2
  go_loopw [13] (fun i wr=>∃k:Nat,k≤n∧i=.int .i64 k∧(∀j:Nat,j < k→l[j]? = l2[j]?)∧Below w.heap.size w wr) (fun i _=>n - (intOf i).toNat)
  case atStart=>exact ⟨0,Nat.zero_le _,rfl,fun j hj=>by omega,Below.refl _ _⟩
  case round =>
   obtain ⟨k,hk,rfl,hall,hb⟩:=hrel;by_cases hlt:k < n
   ·obtain ⟨x,b,off,hx,rfl,c0,c1,c2,c3,c4,c5,c6,c7⟩:=pt_at (h.below hb) k hlt;obtain ⟨y,b2,off2,hy,rfl,d0,d1,d2,d3,d4,d5,d6,d7⟩:=pt_at (h2.below hb) k hlt;have i1:(0:Int)≤(k:Int):=by omega
    have i2:(k:Int) < (n:Int):=by omega
    cases hs:zfk x y
    ·have HN:Hid (¬l=l2):=hide (by
      intro e;rw [e,hy] at hx;cases hx;rw [(zei x x).2 rfl] at hs;cases hs)
     have hne:∀W,(binOp .neq 113 (.agg #[.bool x.up,.int .i64 x.k,.bool x.has,.int .i64 x.v.r,.int .i64 x.v.c,.int .i64 x.v.h,.int .i64 x.v.b,.int .i64 x.v.p]) (.agg #[.bool y.up,.int .i64 y.k,.bool y.has,.int .i64 y.v.r,.int .i64 y.v.c,.int .i64 y.v.h,.int .i64 y.v.b,.int .i64 y.v.p])).run Tryz.prog W=.ok (.bool true) W:=fun W=>by rw [zhD,hs]; rfl
     have hgd:Tryz.prog.eqGuardType Tryz.prog.depth 113=false:=by kernel_rfl
     have HS:(fun W=>(W.cell? ⟨b,off+k*8,none⟩=some (.bool x.up)∧W.cell? ⟨b,off+k*8+1,none⟩=some (.int .i64 x.k)∧W.cell? ⟨b,off+k*8+2,none⟩=some (.bool x.has)∧W.cell? ⟨b,off+k*8+3,none⟩=some (.int .i64 x.v.r)∧W.cell? ⟨b,off+k*8+4,none⟩=some (.int .i64 x.v.c)∧W.cell? ⟨b,off+k*8+5,none⟩=some (.int .i64 x.v.h)∧W.cell? ⟨b,off+k*8+6,none⟩=some (.int .i64 x.v.b)∧W.cell? ⟨b,off+k*8+7,none⟩=some (.int .i64 x.v.p))∧(W.cell? ⟨b2,off2+k*8,none⟩=some (.bool y.up)∧W.cell? ⟨b2,off2+k*8+1,none⟩=some (.int .i64 y.k)∧W.cell? ⟨b2,off2+k*8+2,none⟩=some (.bool y.has)∧W.cell? ⟨b2,off2+k*8+3,none⟩=some (.int .i64 y.v.r)∧W.cell? ⟨b2,off2+k*8+4,none⟩=some (.int .i64 y.v.c)∧W.cell? ⟨b2,off2+k*8+5,none⟩=some (.int .i64 y.v.h)∧W.cell? ⟨b2,off2+k*8+6,none⟩=some (.int .i64 y.v.b)∧W.cell? ⟨b2,off2+k*8+7,none⟩=some (.int .i64 y.v.p))) wr.drew:=⟨⟨c0,c1,c2,c3,c4,c5,c6,c7⟩,d0,d1,d2,d3,d4,d5,d6,d7⟩;clear hs hall hx hy;(go_wp2_with fail);refine wp_region_held_drew (S:=(fun W=>(zcc W b (off+k*8) (.bool x.up)∧zcc W b (off+k*8+1) (.int .i64 x.k)∧zcc W b (off+k*8+2) (.bool x.has)∧zcc W b (off+k*8+3) (.int .i64 x.v.r)∧zcc W b (off+k*8+4) (.int .i64 x.v.c)∧zcc W b (off+k*8+5) (.int .i64 x.v.h)∧zcc W b (off+k*8+6) (.int .i64 x.v.b)∧zcc W b (off+k*8+7) (.int .i64 x.v.p))∧(zcc W b2 (off2+k*8) (.bool y.up)∧zcc W b2 (off2+k*8+1) (.int .i64 y.k)∧zcc W b2 (off2+k*8+2) (.bool y.has)∧zcc W b2 (off2+k*8+3) (.int .i64 y.v.r)∧zcc W b2 (off2+k*8+4) (.int .i64 y.v.c)∧zcc W b2 (off2+k*8+5) (.int .i64 y.v.h)∧zcc W b2 (off2+k*8+6) (.int .i64 y.v.b)∧zcc W b2 (off2+k*8+7) (.int .i64 y.v.p)))) (by kernel_rfl) (HS) (fun hHeld => ?_);refine kK 0 ?_;refine kK 1 ?_;refine kK 2 ?_;refine kK 3 ?_;refine kK 4 ?_;refine kK 5 ?_;refine kK 6 ?_;refine kK 7 ?_;refine kK 8 ?_;refine wpAnyH_done (by kernel_rfl) ?_ _;clear HS hne hgd c0 c1 c2 c3 c4 c5 c6 c7 d0 d1 d2 d3 d4 d5 d6 d7;go_wp2;go_ret;exact ⟨false,rfl,⟨(fun e=>by cases e),fun e=>absurd e HN.out⟩,zr hb⟩
    ·have HA:Hid (∀j:Nat,j < k+1→l[j]? = l2[j]?):=hide (by
      intro j hj;by_cases e:j=k
      ·subst e;rw [hx,hy,(zei x y).1 hs]
      ·exact hall j (by omega))
     have hne:∀W,(binOp .neq 113 (.agg #[.bool x.up,.int .i64 x.k,.bool x.has,.int .i64 x.v.r,.int .i64 x.v.c,.int .i64 x.v.h,.int .i64 x.v.b,.int .i64 x.v.p]) (.agg #[.bool y.up,.int .i64 y.k,.bool y.has,.int .i64 y.v.r,.int .i64 y.v.c,.int .i64 y.v.h,.int .i64 y.v.b,.int .i64 y.v.p])).run Tryz.prog W=.ok (.bool false) W:=fun W=>by rw [zhD,hs]; rfl
     have hgd:Tryz.prog.eqGuardType Tryz.prog.depth 113=false:=by kernel_rfl
     have HS:(fun W=>(W.cell? ⟨b,off+k*8,none⟩=some (.bool x.up)∧W.cell? ⟨b,off+k*8+1,none⟩=some (.int .i64 x.k)∧W.cell? ⟨b,off+k*8+2,none⟩=some (.bool x.has)∧W.cell? ⟨b,off+k*8+3,none⟩=some (.int .i64 x.v.r)∧W.cell? ⟨b,off+k*8+4,none⟩=some (.int .i64 x.v.c)∧W.cell? ⟨b,off+k*8+5,none⟩=some (.int .i64 x.v.h)∧W.cell? ⟨b,off+k*8+6,none⟩=some (.int .i64 x.v.b)∧W.cell? ⟨b,off+k*8+7,none⟩=some (.int .i64 x.v.p))∧(W.cell? ⟨b2,off2+k*8,none⟩=some (.bool y.up)∧W.cell? ⟨b2,off2+k*8+1,none⟩=some (.int .i64 y.k)∧W.cell? ⟨b2,off2+k*8+2,none⟩=some (.bool y.has)∧W.cell? ⟨b2,off2+k*8+3,none⟩=some (.int .i64 y.v.r)∧W.cell? ⟨b2,off2+k*8+4,none⟩=some (.int .i64 y.v.c)∧W.cell? ⟨b2,off2+k*8+5,none⟩=some (.int .i64 y.v.h)∧W.cell? ⟨b2,off2+k*8+6,none⟩=some (.int .i64 y.v.b)∧W.cell? ⟨b2,off2+k*8+7,none⟩=some (.int .i64 y.v.p))) wr.drew:=⟨⟨c0,c1,c2,c3,c4,c5,c6,c7⟩,d0,d1,d2,d3,d4,d5,d6,d7⟩;clear hs hall hx hy;(go_wp2_with fail);refine wp_region_held_drew (S:=(fun W=>(zcc W b (off+k*8) (.bool x.up)∧zcc W b (off+k*8+1) (.int .i64 x.k)∧zcc W b (off+k*8+2) (.bool x.has)∧zcc W b (off+k*8+3) (.int .i64 x.v.r)∧zcc W b (off+k*8+4) (.int .i64 x.v.c)∧zcc W b (off+k*8+5) (.int .i64 x.v.h)∧zcc W b (off+k*8+6) (.int .i64 x.v.b)∧zcc W b (off+k*8+7) (.int .i64 x.v.p))∧(zcc W b2 (off2+k*8) (.bool y.up)∧zcc W b2 (off2+k*8+1) (.int .i64 y.k)∧zcc W b2 (off2+k*8+2) (.bool y.has)∧zcc W b2 (off2+k*8+3) (.int .i64 y.v.r)∧zcc W b2 (off2+k*8+4) (.int .i64 y.v.c)∧zcc W b2 (off2+k*8+5) (.int .i64 y.v.h)∧zcc W b2 (off2+k*8+6) (.int .i64 y.v.b)∧zcc W b2 (off2+k*8+7) (.int .i64 y.v.p)))) (by kernel_rfl) (HS) (fun hHeld => ?_);refine kK 0 ?_;refine kK 1 ?_;refine kK 2 ?_;refine kK 3 ?_;refine kK 4 ?_;refine kK 5 ?_;refine kK 6 ?_;refine kK 7 ?_;refine kK 8 ?_;refine wpAnyH_done (by kernel_rfl) ?_ _;clear HS hne hgd c0 c1 c2 c3 c4 c5 c6 c7 d0 d1 d2 d3 d4 d5 d6 d7;go_wp2
     go_roundw
     case rel=>exact ⟨k+1,by omega,by go_num,HA.out,zr hb⟩
     case measure=>simp [intOf]; omega
   ·have hkn:k=n:=by omega
    subst hkn;have HE:Hid (l=l2):=hide (by
     refine List.ext_getElem? (fun j => ?_);by_cases hj:j < k
     ·exact hall j hj
     ·rw [List.getElem?_eq_none (by omega),List.getElem?_eq_none (by omega)])
    clear hall;go_wp2;go_ret;exact ⟨true,rfl,⟨fun _=>HE.out,fun _=>rfl⟩,hb⟩
 ·have hne:¬(n:Int)=(n2:Int):=by omega
  go_enter Tryz.func60,Tryz.ntmps60;go_wp2;go_ret;exact ⟨false,rfl,⟨(fun e=>by cases e),fun e=>absurd (by rw [← hsz,← hsz2,e]) hnn⟩,Below.refl _ _⟩

theorem zcn (a:Option Addr) (n c:Nat) (l:List FE) (a2:Option Addr) (n2 c2:Nat) (l2:List FE) (w:World) (h:GRow fentF w a n c l) (h2:GRow fentF w a2 n2 c2 l2) :
  Calls Tryz.prog 61 #[.slice a n c,.slice a2 n2 c2] w fun e w'=>∃q:Bool,e=.returned (.bool q)∧(q=true↔l=l2)∧Below w.heap.size w w':=by
 have hle:=h.le;have htop:=h.top;have hle2:=h2.le;have htop2:=h2.top;unfold maxLen at htop htop2;have hsz:=h.size;have hsz2:=h2.size;by_cases hnn:n=n2
 ·subst hnn;go_enter Tryz.func61,Tryz.ntmps61;go_wp2
  go_loopw [13] (fun i wr=>∃k:Nat,k≤n∧i=.int .i64 k∧(∀j:Nat,j < k→l[j]? = l2[j]?)∧Below w.heap.size w wr) (fun i _=>n - (intOf i).toNat)
  case atStart=>exact ⟨0,Nat.zero_le _,rfl,fun j hj=>by omega,Below.refl _ _⟩
  case round =>
   obtain ⟨k,hk,rfl,hall,hb⟩:=hrel;by_cases hlt:k < n
   ·obtain ⟨x,b,off,hx,rfl,c0,c1,c2,c3,c4⟩:=zbi (h.below hb) k hlt;obtain ⟨y,b2,off2,hy,rfl,d0,d1,d2,d3,d4⟩:=zbi (h2.below hb) k hlt;have i1:(0:Int)≤(k:Int):=by omega
    have i2:(k:Int) < (n:Int):=by omega
    cases hs:zfj x y
    ·have HN:Hid (¬l=l2):=hide (by
      intro e;rw [e,hy] at hx;cases hx;rw [(zeh x x).2 rfl] at hs;cases hs)
     have hne:∀W,(binOp .neq 116 (.agg #[.int .i64 x.t,.int .i64 x.m,.int .i64 x.p,.int .i64 x.a,.bool x.s]) (.agg #[.int .i64 y.t,.int .i64 y.m,.int .i64 y.p,.int .i64 y.a,.bool y.s])).run Tryz.prog W=.ok (.bool true) W:=fun W=>by rw [zeW,hs]; rfl
     have hgd:Tryz.prog.eqGuardType Tryz.prog.depth 116=false:=by kernel_rfl
     have HS:(fun W=>(W.cell? ⟨b,off+k*5,none⟩=some (.int .i64 x.t)∧W.cell? ⟨b,off+k*5+1,none⟩=some (.int .i64 x.m)∧W.cell? ⟨b,off+k*5+2,none⟩=some (.int .i64 x.p)∧W.cell? ⟨b,off+k*5+3,none⟩=some (.int .i64 x.a)∧W.cell? ⟨b,off+k*5+4,none⟩=some (.bool x.s))∧(W.cell? ⟨b2,off2+k*5,none⟩=some (.int .i64 y.t)∧W.cell? ⟨b2,off2+k*5+1,none⟩=some (.int .i64 y.m)∧W.cell? ⟨b2,off2+k*5+2,none⟩=some (.int .i64 y.p)∧W.cell? ⟨b2,off2+k*5+3,none⟩=some (.int .i64 y.a)∧W.cell? ⟨b2,off2+k*5+4,none⟩=some (.bool y.s))) wr.drew:=⟨⟨c0,c1,c2,c3,c4⟩,d0,d1,d2,d3,d4⟩;clear hs hall hx hy;(go_wp2_with fail);refine wp_region_held_drew (S:=(fun W=>(zcc W b (off+k*5) (.int .i64 x.t)∧zcc W b (off+k*5+1) (.int .i64 x.m)∧zcc W b (off+k*5+2) (.int .i64 x.p)∧zcc W b (off+k*5+3) (.int .i64 x.a)∧zcc W b (off+k*5+4) (.bool x.s))∧(zcc W b2 (off2+k*5) (.int .i64 y.t)∧zcc W b2 (off2+k*5+1) (.int .i64 y.m)∧zcc W b2 (off2+k*5+2) (.int .i64 y.p)∧zcc W b2 (off2+k*5+3) (.int .i64 y.a)∧zcc W b2 (off2+k*5+4) (.bool y.s)))) (by kernel_rfl) (HS) (fun hHeld => ?_);refine kK 0 ?_;refine kK 1 ?_;refine kK 2 ?_;refine kK 3 ?_;refine kK 4 ?_;refine kK 5 ?_;refine kK 6 ?_;refine kK 7 ?_;refine kK 8 ?_;refine wpAnyH_done (by kernel_rfl) ?_ _;clear HS hne hgd c0 c1 c2 c3 c4 d0 d1 d2 d3 d4;go_wp2;go_ret;exact ⟨false,rfl,⟨(fun e=>by cases e),fun e=>absurd e HN.out⟩,zr hb⟩
    ·have HA:Hid (∀j:Nat,j < k+1→l[j]? = l2[j]?):=hide (by
      intro j hj;by_cases e:j=k
      ·subst e;rw [hx,hy,(zeh x y).1 hs]
      ·exact hall j (by omega))
     have hne:∀W,(binOp .neq 116 (.agg #[.int .i64 x.t,.int .i64 x.m,.int .i64 x.p,.int .i64 x.a,.bool x.s]) (.agg #[.int .i64 y.t,.int .i64 y.m,.int .i64 y.p,.int .i64 y.a,.bool y.s])).run Tryz.prog W=.ok (.bool false) W:=fun W=>by rw [zeW,hs]; rfl
     have hgd:Tryz.prog.eqGuardType Tryz.prog.depth 116=false:=by kernel_rfl
     have HS:(fun W=>(W.cell? ⟨b,off+k*5,none⟩=some (.int .i64 x.t)∧W.cell? ⟨b,off+k*5+1,none⟩=some (.int .i64 x.m)∧W.cell? ⟨b,off+k*5+2,none⟩=some (.int .i64 x.p)∧W.cell? ⟨b,off+k*5+3,none⟩=some (.int .i64 x.a)∧W.cell? ⟨b,off+k*5+4,none⟩=some (.bool x.s))∧(W.cell? ⟨b2,off2+k*5,none⟩=some (.int .i64 y.t)∧W.cell? ⟨b2,off2+k*5+1,none⟩=some (.int .i64 y.m)∧W.cell? ⟨b2,off2+k*5+2,none⟩=some (.int .i64 y.p)∧W.cell? ⟨b2,off2+k*5+3,none⟩=some (.int .i64 y.a)∧W.cell? ⟨b2,off2+k*5+4,none⟩=some (.bool y.s))) wr.drew:=⟨⟨c0,c1,c2,c3,c4⟩,d0,d1,d2,d3,d4⟩;clear hs hall hx hy;(go_wp2_with fail);refine wp_region_held_drew (S:=(fun W=>(zcc W b (off+k*5) (.int .i64 x.t)∧zcc W b (off+k*5+1) (.int .i64 x.m)∧zcc W b (off+k*5+2) (.int .i64 x.p)∧zcc W b (off+k*5+3) (.int .i64 x.a)∧zcc W b (off+k*5+4) (.bool x.s))∧(zcc W b2 (off2+k*5) (.int .i64 y.t)∧zcc W b2 (off2+k*5+1) (.int .i64 y.m)∧zcc W b2 (off2+k*5+2) (.int .i64 y.p)∧zcc W b2 (off2+k*5+3) (.int .i64 y.a)∧zcc W b2 (off2+k*5+4) (.bool y.s)))) (by kernel_rfl) (HS) (fun hHeld => ?_);refine kK 0 ?_;refine kK 1 ?_;refine kK 2 ?_;refine kK 3 ?_;refine kK 4 ?_;refine kK 5 ?_;refine kK 6 ?_;refine kK 7 ?_;refine kK 8 ?_;refine wpAnyH_done (by kernel_rfl) ?_ _;clear HS hne hgd c0 c1 c2 c3 c4 d0 d1 d2 d3 d4;go_wp2
     go_roundw
     case rel=>exact ⟨k+1,by omega,by go_num,HA.out,zr hb⟩
     case measure=>simp [intOf]; omega
   ·have hkn:k=n:=by omega
    subst hkn;have HE:Hid (l=l2):=hide (by
     refine List.ext_getElem? (fun j => ?_);by_cases hj:j < k
     ·exact hall j hj
     ·rw [List.getElem?_eq_none (by omega),List.getElem?_eq_none (by omega)])
    clear hall;go_wp2;go_ret;exact ⟨true,rfl,⟨fun _=>HE.out,fun _=>rfl⟩,hb⟩
 ·have hne:¬(n:Int)=(n2:Int):=by omega
  go_enter Tryz.func61,Tryz.ntmps61;go_wp2;go_ret;exact ⟨false,rfl,⟨(fun e=>by cases e),fun e=>absurd (by rw [← hsz,← hsz2,e]) hnn⟩,Below.refl _ _⟩

theorem zcZ (a:Option Addr) (n c:Nat) (l:List VR) (a2:Option Addr) (n2 c2:Nat) (l2:List VR) (w:World) (h:GRow vrowF w a n c l) (h2:GRow vrowF w a2 n2 c2 l2) :
  Calls Tryz.prog 62 #[.slice a n c,.slice a2 n2 c2] w fun e w'=>∃q:Bool,e=.returned (.bool q)∧(q=true↔l=l2)∧Below w.heap.size w w':=by
 have hle:=h.le;have htop:=h.top;have hle2:=h2.le;have htop2:=h2.top;unfold maxLen at htop htop2;have hsz:=h.size;have hsz2:=h2.size;by_cases hnn:n=n2
 ·subst hnn;go_enter Tryz.func62,Tryz.ntmps62;go_wp2
  go_loopw [13] (fun i wr=>∃k:Nat,k≤n∧i=.int .i64 k∧(∀j:Nat,j < k→l[j]? = l2[j]?)∧Below w.heap.size w wr) (fun i _=>n - (intOf i).toNat)
  case atStart=>exact ⟨0,Nat.zero_le _,rfl,fun j hj=>by omega,Below.refl _ _⟩
  case round =>
   obtain ⟨k,hk,rfl,hall,hb⟩:=hrel;by_cases hlt:k < n
   ·obtain ⟨x,b,off,hx,rfl,c0,c1,c2⟩:=zaI (h.below hb) k hlt;obtain ⟨y,b2,off2,hy,rfl,d0,d1,d2⟩:=zaI (h2.below hb) k hlt;have i1:(0:Int)≤(k:Int):=by omega
    have i2:(k:Int) < (n:Int):=by omega
    cases hs:zfm x y
    ·have HN:Hid (¬l=l2):=hide (by
      intro e;rw [e,hy] at hx;cases hx;rw [(zej x x).2 rfl] at hs;cases hs)
     have hne:∀W,(binOp .neq 119 (.agg #[.int .i64 x.i,.int .i64 x.m,.int .i64 x.b]) (.agg #[.int .i64 y.i,.int .i64 y.m,.int .i64 y.b])).run Tryz.prog W=.ok (.bool true) W:=fun W=>by rw [zfs,hs]; rfl
     have hgd:Tryz.prog.eqGuardType Tryz.prog.depth 119=false:=by kernel_rfl
     have HS:(fun W=>(W.cell? ⟨b,off+k*3,none⟩=some (.int .i64 x.i)∧W.cell? ⟨b,off+k*3+1,none⟩=some (.int .i64 x.m)∧W.cell? ⟨b,off+k*3+2,none⟩=some (.int .i64 x.b))∧(W.cell? ⟨b2,off2+k*3,none⟩=some (.int .i64 y.i)∧W.cell? ⟨b2,off2+k*3+1,none⟩=some (.int .i64 y.m)∧W.cell? ⟨b2,off2+k*3+2,none⟩=some (.int .i64 y.b))) wr.drew:=⟨⟨c0,c1,c2⟩,d0,d1,d2⟩;clear hs hall hx hy;(go_wp2_with fail);refine wp_region_held_drew (S:=(fun W=>(zcc W b (off+k*3) (.int .i64 x.i)∧zcc W b (off+k*3+1) (.int .i64 x.m)∧zcc W b (off+k*3+2) (.int .i64 x.b))∧(zcc W b2 (off2+k*3) (.int .i64 y.i)∧zcc W b2 (off2+k*3+1) (.int .i64 y.m)∧zcc W b2 (off2+k*3+2) (.int .i64 y.b)))) (by kernel_rfl) (HS) (fun hHeld => ?_);refine kK 0 ?_;refine kK 1 ?_;refine kK 2 ?_;refine kK 3 ?_;refine kK 4 ?_;refine kK 5 ?_;refine kK 6 ?_;refine kK 7 ?_;refine kK 8 ?_;refine wpAnyH_done (by kernel_rfl) ?_ _;clear HS hne hgd c0 c1 c2 d0 d1 d2;go_wp2;go_ret;exact ⟨false,rfl,⟨(fun e=>by cases e),fun e=>absurd e HN.out⟩,zr hb⟩
    ·have HA:Hid (∀j:Nat,j < k+1→l[j]? = l2[j]?):=hide (by
      intro j hj;by_cases e:j=k
      ·subst e;rw [hx,hy,(zej x y).1 hs]
      ·exact hall j (by omega))
     have hne:∀W,(binOp .neq 119 (.agg #[.int .i64 x.i,.int .i64 x.m,.int .i64 x.b]) (.agg #[.int .i64 y.i,.int .i64 y.m,.int .i64 y.b])).run Tryz.prog W=.ok (.bool false) W:=fun W=>by rw [zfs,hs]; rfl
     have hgd:Tryz.prog.eqGuardType Tryz.prog.depth 119=false:=by kernel_rfl
     have HS:(fun W=>(W.cell? ⟨b,off+k*3,none⟩=some (.int .i64 x.i)∧W.cell? ⟨b,off+k*3+1,none⟩=some (.int .i64 x.m)∧W.cell? ⟨b,off+k*3+2,none⟩=some (.int .i64 x.b))∧(W.cell? ⟨b2,off2+k*3,none⟩=some (.int .i64 y.i)∧W.cell? ⟨b2,off2+k*3+1,none⟩=some (.int .i64 y.m)∧W.cell? ⟨b2,off2+k*3+2,none⟩=some (.int .i64 y.b))) wr.drew:=⟨⟨c0,c1,c2⟩,d0,d1,d2⟩;clear hs hall hx hy;(go_wp2_with fail);refine wp_region_held_drew (S:=(fun W=>(zcc W b (off+k*3) (.int .i64 x.i)∧zcc W b (off+k*3+1) (.int .i64 x.m)∧zcc W b (off+k*3+2) (.int .i64 x.b))∧(zcc W b2 (off2+k*3) (.int .i64 y.i)∧zcc W b2 (off2+k*3+1) (.int .i64 y.m)∧zcc W b2 (off2+k*3+2) (.int .i64 y.b)))) (by kernel_rfl) (HS) (fun hHeld => ?_);refine kK 0 ?_;refine kK 1 ?_;refine kK 2 ?_;refine kK 3 ?_;refine kK 4 ?_;refine kK 5 ?_;refine kK 6 ?_;refine kK 7 ?_;refine kK 8 ?_;refine wpAnyH_done (by kernel_rfl) ?_ _;clear HS hne hgd c0 c1 c2 d0 d1 d2;go_wp2
     go_roundw
     case rel=>exact ⟨k+1,by omega,by go_num,HA.out,zr hb⟩
     case measure=>simp [intOf]; omega
   ·have hkn:k=n:=by omega
    subst hkn;have HE:Hid (l=l2):=hide (by
     refine List.ext_getElem? (fun j => ?_);by_cases hj:j < k
     ·exact hall j hj
     ·rw [List.getElem?_eq_none (by omega),List.getElem?_eq_none (by omega)])
    clear hall;go_wp2;go_ret;exact ⟨true,rfl,⟨fun _=>HE.out,fun _=>rfl⟩,hb⟩
 ·have hne:¬(n:Int)=(n2:Int):=by omega
  go_enter Tryz.func62,Tryz.ntmps62;go_wp2;go_ret;exact ⟨false,rfl,⟨(fun e=>by cases e),fun e=>absurd (by rw [← hsz,← hsz2,e]) hnn⟩,Below.refl _ _⟩

theorem zjg (a0:Option Addr) (l0 c0:Nat) (w:World) (h:¬1048576 < l0):Calls Tryz.prog 9 #[.slice a0 l0 c0] w fun e w'=>e=.returned (.bool false)∧w'=w:=by
 have i1:¬(1048576:Int) < l0:=by omega
 go_enter Tryz.func9,Tryz.ntmps9;go_wp2;go_ret;exact ⟨rfl,rfl⟩

theorem Row.take {w:World} {ao:Option Addr} {n c:Nat} {zs:List Int} (h:Row w ao n c zs) (k:Nat) (hk:k≤n):Row w ao k c (zs.take k) where
 size:=by have:=h.size; simp; omega
 le:=by have:=h.le; omega
 top:=h.top
 nil:=h.nil
 byte:=fun z hz=>h.byte z (List.mem_of_mem_take hz)
 cell:=by
  rcases h.cell with h0 | ⟨b,off,ha,hc⟩
  ·exact .inl (by omega)
  ·exact .inr ⟨b,off,ha,fun i hi=>by rw [hc i (by omega)]; simp [List.getD_eq_getElem?_getD,hi]⟩

end Go.Proofs.YtcpdkcdfnpcemaaGreat
