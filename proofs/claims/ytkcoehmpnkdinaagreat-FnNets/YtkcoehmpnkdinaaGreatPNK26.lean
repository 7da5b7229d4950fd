/-
  Packed: BrInner BrInner2 FdbTab BrNewI NetNewM.
-/
import Derived.Test.YtkcoehmpnkdinaaGreatPNFdbImplA
import Derived.Test.YtkcoehmpnkdinaaGreatPNK06
import Derived.Test.YtkcoehmpnkdinaaGreatPNK21
namespace Go.Proofs.YtkcoehmpnkdinaaGreat
set_option maxRecDepth 100000
set_option maxHeartbeats 16000000
open Go.RowKit

theorem za6 {w:World} {g:Nat} {T:TypeId} {c0 c1 c2 c3 c4 c5 c6 c7 c8 c9 c10 c11:Value} (h:w.heap[g]? = some (.cells #[c0,c1,c2,c3,c4,c5,c6,c7,c8,c9,c10,c11] T)) :
  w.cell? ⟨g,0,none⟩=some c0∧w.cell? ⟨g,1,none⟩=some c1∧w.cell? ⟨g,2,none⟩=some c2∧w.cell? ⟨g,3,none⟩=some c3∧w.cell? ⟨g,4,none⟩=some c4∧w.cell? ⟨g,5,none⟩=some c5∧w.cell? ⟨g,6,none⟩=some c6∧w.cell? ⟨g,7,none⟩=some c7∧w.cell? ⟨g,8,none⟩=some c8∧w.cell? ⟨g,9,none⟩=some c9∧w.cell? ⟨g,10,none⟩=some c10∧w.cell? ⟨g,11,none⟩=some c11:=by
 simp [World.cell?,h]

structure IbSt (w wr:World) (R X:Nat) (zs cs:Array Value) (TR TX:TypeId):Prop where
 box:wr.heap[X]? = some (.cells cs TX)
 res:wr.heap[R]? = some (.cells zs TR)
 below:Below w.heap.size w wr
 hX:w.heap.size≤X
 hR:w.heap.size≤R
 ne:R≠X

theorem IbSt.later {w wr wx:World} {R X:Nat} {zs cs:Array Value} {TR TX:TypeId} (h:IbSt w wr R X zs cs TR TX) (hb:Below wr.heap.size wr wx):IbSt w wx R X zs cs TR TX :=
 ⟨za h.box hb,za h.res hb,zc h.below hb,h.hX,h.hR,h.ne⟩

theorem IbSt.put {w wr:World} {R X:Nat} {zs cs:Array Value} {TR TX:TypeId} (h:IbSt w wr R X zs cs TR TX) (j:Nat) (u:Value) {cs':Array Value} (he:cs.setIfInBounds j u=cs'):IbSt w (wr.setCell ⟨X,j,none⟩ u) R X zs cs' TR TX :=
 ⟨by rw [← he]; exact box11 h.box j u,zam h.res h.ne,zj h.below h.hX j u,h.hX,h.hR,h.ne⟩

theorem IbSt.grown {w wr wx:World} {R X:Nat} {zs cs:Array Value} {TR TX:TypeId} (h:IbSt w wr R X zs cs TR TX) {base k:Nat} {e:TypeId} {v:Value} {n:Nat} {ys:List Value} (ho:wr.ownsRow base e k v n ys) (h1:(e:Nat)≠TX) (h2:(e:Nat)≠TR) (hg:wr.grownBy wx v.ownBlock) (hb:Below w.heap.size wr wx):IbSt w wx R X zs cs TR TX :=
 ⟨ze h.box hg (fun i e=>zN ho h.box h1 i e),ze h.res hg (fun i e=>zN ho h.res h2 i e),h.below.trans hb,h.hX,h.hR,h.ne⟩

theorem IbSt.stay {w wr:World} {R X:Nat} {zs cs:Array Value} {TR TX:TypeId} (h:IbSt w wr R X zs cs TR TX) {base k:Nat} {e:TypeId} {v:Value} {n:Nat} {ys:List Value} (ho:wr.ownsRow base e k v n ys) (hne:(e:Nat)≠TX) (j:Nat) (u:Value):(wr.setCell ⟨X,j,none⟩ u).ownsRow base e k v n ys :=
 zB ho (zm (rb:=X) j u) (zN ho h.box hne)

theorem BrOwn.other {w:World} {base:Nat} {a:Option Addr} {n c:Nat} {fa:Option Addr} {fn fc:Nat} {ra:Option Addr} {rn rc:Nat} {oa:Option Addr} {on oc:Nat} {B:BR} (h:BrOwn w base a n c fa fn fc ra rn rc oa on oc B) {X:Nat} {cs:Array Value} {T:TypeId} (hX:w.heap[X]? = some (.cells cs T)) (h1:(79:Nat)≠T) (h2:(95:Nat)≠T) (h3:(98:Nat)≠T) (h4:(3:Nat)≠T) (j:Nat) (u:Value):BrOwn (w.setCell ⟨X,j,none⟩ u) base a n c fa fn fc ra rn rc oa on oc B :=
 ⟨zB h.ports (zm (rb:=X) j u) (zN h.ports hX h1),zB h.f (zm (rb:=X) j u) (zN h.f hX h2),
  ⟨zB h.v.rows (zm (rb:=X) j u) (zN h.v.rows hX h3),zB h.v.own (zm (rb:=X) j u) (zN h.v.own hX h4),h.v.i64⟩⟩

theorem zhp (n:Int) (w:World) (h:n≤1000000) (h0:0≤n) :
  Calls Tryz.prog 106 #[.int .i64 n] w fun e w'=>e=.returned (.int .i64 (zap n))∧w'=w:=by
 by_cases h1:n≥1000000
 ·have e:n=1000000:=by omega
  subst e;rw [show zap 1000000=1000000 from rfl];go_enter Tryz.func106,Tryz.ntmps106;go_wp2;go_ret;exact ⟨rfl,rfl⟩
 ·rw [show zap n=n+1 from if_neg h1];have h1':min (n+1) (1000000:Int)=n+1:=by omega
  go_enter Tryz.func106,Tryz.ntmps106;go_wp2;go_ret;exact ⟨rfl,rfl⟩

theorem zeG (a:Option Addr) (n c:Nat) (port:Int) (w:World) (hn:n≤137438953472) :
  Calls Tryz.prog 68 #[.slice a n c,.int .i64 port] w fun e w'=>e=.returned (.bool (decide (0≤port) && decide (port≤(n:Int) - 1)))∧w'=w:=by
 go_enter Tryz.func68,Tryz.ntmps68;go_wp2_with fail
 refine (zA port 0 ((n:Int) - 1) _).mono ?_;rintro r w3 ⟨rfl,ew⟩;obtain rfl:=ew.symm;go_wp2;go_ret;exact ⟨rfl,rfl⟩

theorem zcN (a:Option Addr) (n c:Nat) (fa:Option Addr) (fn fc:Nat) (ra:Option Addr) (rn rc:Nat) (oa:Option Addr) (on oc:Nat) (B:BR) (w:World) :
  Calls Tryz.prog 73 #[.agg #[.slice a n c,.int .i64 B.id,.string B.name,.slice none 0 0,.slice fa fn fc,.slice ra rn rc,.slice oa on oc,.int .i64 B.ticks,.int .i64 B.parse,.int .i64 B.word,.int .i64 B.drops,.int .i64 B.vers]] w fun e w'=>e=.returned (.agg #[.int .i64 B.id,.string B.name,.slice a n c,.slice fa fn fc,.slice ra rn rc,.slice oa on oc,.int .i64 B.ticks,.int .i64 B.parse,.int .i64 B.word,.int .i64 B.drops,.int .i64 B.vers])∧Below w.heap.size w w':=by
 generalize hw1:w.alloc (Obj.cells #[.slice a n c,.int .i64 B.id,.string B.name,.slice none 0 0,.slice fa fn fc,.slice ra rn rc,.slice oa on oc,.int .i64 B.ticks,.int .i64 B.parse,.int .i64 B.word,.int .i64 B.drops,.int .i64 B.vers] 116)=w1;generalize hw2:w1.alloc (Obj.cells #[.int .i64 0,.string ⟨#[]⟩,.slice none 0 0,.slice none 0 0,.slice none 0 0,.slice none 0 0,.int .i64 0,.int .i64 0,.int .i64 0,.int .i64 0,.int .i64 0] 61)=w2;generalize hw3:w2.alloc (Obj.cells #[.int .i64 B.id,.string B.name,.slice none 0 0,.slice fa fn fc,.slice ra rn rc,.slice oa on oc,.int .i64 B.ticks,.int .i64 B.parse,.int .i64 B.word,.int .i64 B.drops,.int .i64 B.vers] 61)=w3;have b01:=zb hw1;have b12:=zb hw2;have b23:=zb hw3;have z1:w.heap.size < w1.heap.size:=by rw [← hw1]; simp
 have z2:w1.heap.size < w2.heap.size:=by rw [← hw2]; simp
 have k1:=zk hw1;have kA:=za (za k1 b12) b23;obtain ⟨x0,x1,x2,x3,x4,x5,x6,x7,x8,x9,x10,x11⟩:=za6 (za k1 b12);have st:BcSt w w3 w1.heap.size w2.heap.size #[.int .i64 B.id,.string B.name,.slice none 0 0,.slice fa fn fc,.slice ra rn rc,.slice oa on oc,.int .i64 B.ticks,.int .i64 B.parse,.int .i64 B.word,.int .i64 B.drops,.int .i64 B.vers]:=⟨by rw [← hw3]; exact zt _ _,za (zk hw2) b23,zc (zc b01 b12) b23,by omega,Nat.le_of_lt z1,Nat.ne_of_lt z2⟩;have nAX:¬w.heap.size=w2.heap.size:=by omega
 have nXA:¬w2.heap.size=w.heap.size:=by omega
 have nRX:¬w1.heap.size=w2.heap.size:=by omega
 have nXR:¬w2.heap.size=w1.heap.size:=by omega
 clear z1 z2 b01 b12 b23 k1;go_enter Tryz.func73,Tryz.ntmps73;go_upto_region 2 with fail
 clear x0 x1 x2 x3 x4 x5 x6 x7 x8 x9 x10 x11
 try rw [hw3]
 clear hw1 hw2 hw3;generalize hX:w2.heap.size=X at *;generalize hR:w1.heap.size=R at *;have st5:=st.put 2 (.slice a n c) (cs':=#[.int .i64 B.id,.string B.name,.slice a n c,.slice fa fn fc,.slice ra rn rc,.slice oa on oc,.int .i64 B.ticks,.int .i64 B.parse,.int .i64 B.word,.int .i64 B.drops,.int .i64 B.vers]) rfl;have HB:=hide (zQ st5.below st5.hR (.int .i64 B.id) (.string B.name) (.slice a n c) (.slice fa fn fc) (.slice ra rn rc) (.slice oa on oc) (.int .i64 B.ticks) (.int .i64 B.parse) (.int .i64 B.word) (.int .i64 B.drops) (.int .i64 B.vers));obtain ⟨x0,x1,x2,x3,x4,x5,x6,x7,x8,x9,x10,x11⟩:=za6 kA;obtain ⟨y0,y1,y2,y3,y4,y5,y6,y7,y8,y9,y10⟩:=zp st.box;obtain ⟨u0,u1,u2,u3,u4,u5,u6,u7,u8,u9,u10⟩:=zp st.res;have g2:=zi st.box 2;have fr:=zi st.res;have fr0:=fr 0;have fr1:=fr 1;have fr2:=fr 2;have fr3:=fr 3;have fr4:=fr 4;have fr5:=fr 5;have fr6:=fr 6;have fr7:=fr 7;have fr8:=fr 8;have fr9:=fr 9;have fr10:=fr 10;clear fr st st5 kA;go_wp2;exact bodyPost_ret (v:=.agg #[.int .i64 B.id,.string B.name,.slice a n c,.slice fa fn fc,.slice ra rn rc,.slice oa on oc,.int .i64 B.ticks,.int .i64 B.parse,.int .i64 B.word,.int .i64 B.drops,.int .i64 B.vers]) (by simp [results,Tryz.results73,go_sem, *]) rfl ⟨rfl,HB.out⟩

theorem zhn (base g n cap k:Nat) (l:List PT) (x:PT) (up:Bool) (w:World) (h:w.ownsRow base 79 8 (.slice (some ⟨g,0,none⟩) n cap) n (ptF.all (l))) (hx:l[k]? = some x) (hk:k < n) :
  Calls Tryz.prog 74 #[.slice (some ⟨g,0,none⟩) n cap,.int .i64 k,.bool up] w fun e w'=>e=.returned (.tuple #[])∧w'.ownsRow base 79 8 (.slice (some ⟨g,0,none⟩) n cap) n (ptF.all (l.set k ⟨up,x.k,false,⟨0,0,0,0,0⟩⟩))∧w.grownBy w' (some g):=by
 have i1:(0:Int)≤(k:Int):=by omega
 have i2:(k:Int) < (n:Int):=by omega
 obtain ⟨⟨t0,t1,t2,t3,t4,t5,t6,t7⟩,f0,f1,f2,f3,f4,f5,f6,f7⟩:=zem h hx;have HA:=hide (zh5 up h hx);have HG:=hide (zfu (w:=w) (g:=g) (k*8) (k*8+1) (k*8+2) (k*8+3) (k*8+4) (k*8+5) (k*8+6) (k*8+7) (.bool up) (.int .i64 x.k) (.bool false) (.int .i64 0) (.int .i64 0) (.int .i64 0) (.int .i64 0) (.int .i64 0));clear hx h;go_enter Tryz.func74,Tryz.ntmps74;go_wp2
 go_end0
 exact ⟨rfl,HA.out,HG.out⟩

theorem ziA (ao:Option Addr) (n cap:Nat) (l:List PT) (w:World) (h:GRow ptF w ao n cap l) (hn:n≤16777216) :
  Calls Tryz.prog 103 #[.slice ao n cap] w fun r w'=>∃ao' cap',r=.returned (.slice ao' n cap')∧w'.ownsRow w.heap.size 79 8 (.slice ao' n cap') n (ptF.all l)∧Below w.heap.size w w':=by
 cases ao with
 | none =>
  have hc0:=h.nil rfl;have hn0:n=0:=by have:=h.le; omega
  subst hc0 hn0;have hl:l=[]:=List.eq_nil_of_length_eq_zero h.size;subst hl;have heq:∀W,(binOp .eql 55 (.slice none 0 0) (.slice none 0 0)).run Tryz.prog W=.ok (.bool true) W:=fun _=>by kernel_rfl
  go_enter Tryz.func103,Tryz.ntmps103;go_wp2;go_ret;exact ⟨none,0,rfl,World.ownsRow_nil _ _ _ _,Below.refl _ _⟩
 | some a =>
  have heq:∀W,(binOp .eql 55 (.slice (some a) n cap) (.slice none 0 0)).run Tryz.prog W=.ok (.bool false) W:=fun _=>by kernel_rfl
  go_enter Tryz.func103,Tryz.ntmps103;go_wp2_with (at_builtin; refine zci _ rfl _ _ rfl w.heap.size _ 0 [] rfl (zaE ptF w _ 79 w.heap.size (zt w _) (Nat.le_refl _)) (some a) n cap l rfl (h.below (zg _ _)) (by omega) (by simp) ?_)
  intro ao' cap' w' how hr hgr hb;have how:w'.ownsRow w.heap.size 79 8 (.slice ao' n cap') n (ptF.all l):=by simpa using how
  have HO:=hide how;have HB:=hide ((zg w _).trans hb);clear how hgr hb hr;go_wp2;go_ret;exact ⟨ao',cap',(by simp),HO.out,HB.out⟩

section
open Go.RowKit Go.Maps

def fkF:Flat FK where
 k:=3
 cs:=fun k=>[.int .i64 k.1,.int .i64 k.2.1,.int .i64 k.2.2]
 len:=fun _=>rfl
 pos:=by decide
 one:=fun _ v hv=>by
  simp only [List.mem_cons,List.not_mem_nil,or_false] at hv;rcases hv with rfl | rfl | rfl <;> rfl

theorem wf_of {n:Int} (h : -9223372036854775808≤n∧n≤9223372036854775807):(Lit.int .i64 n).wf=true:=by
 simp [Lit.wf,IntKind.min,IntKind.max,IntKind.bits,IntKind.signed]
 omega

theorem zlf:laidOutB Tryz.prog=true:=by kernel_rfl
theorem zlK:(182:TypeId) < Tryz.prog.types.size:=of_decide_eq_true (by kernel_rfl)
theorem zlg:(match Tryz.prog.underlying 182 with | some (.array _ _) | some (.struct _)=>true | _=>false)=true:=by kernel_rfl
theorem zk3:Keyed Tryz.prog 182:=Keyed.of_law (deep_law_laid zlf (m:=2) (by omega) zlK (by kernel_rfl) zlg)

def fkV (k:FK):Value:=.agg #[.int .i64 k.1,.int .i64 k.2.1,.int .i64 k.2.2]
def feV (e:FE):Value:=.agg #[.int .i64 e.t,.int .i64 e.m,.int .i64 e.p,.int .i64 e.a,.bool e.s]

theorem zk2 (k:FK) (h:FKok k):∃l,keyOf Tryz.prog 182 (fkV k)=some l:=by
 have w1:=wf_of h.1;have w2:=wf_of h.2.1;have w3:=wf_of h.2.2;have h1:Tryz.prog.keyType 182=true:=by kernel_rfl
 have hc3:Tryz.prog.cellsOf 182=3:=by kernel_rfl
 have hc1:Tryz.prog.cellsOf 3=1:=by kernel_rfl
 have h2:(fkV k).formed Tryz.prog 182=true:=by simp [fkV,Value.formed,Tryz.underlying182,hc3]
 obtain ⟨q,hq⟩:∃q,Tryz.prog.types.size=q+1:=⟨Tryz.prog.types.size - 1,by have:0 < Tryz.prog.types.size:=of_decide_eq_true (by kernel_rfl); omega⟩;have h3:Tryz.prog.keyLits (Tryz.prog.types.size+1) 182 (fkV k).cells.toList=some [.int .i64 k.1,.int .i64 k.2.1,.int .i64 k.2.2]:=by
  rw [hq]
  simp [Program.keyLits,fkV,Value.cells,Tryz.underlying182,Tryz.underlying3,hc3,hc1,w1,w2,w3]
 refine ⟨.string (keyBytes [.int .i64 k.1,.int .i64 k.2.1,.int .i64 k.2.2]), ?_⟩;unfold keyOf;rw [Tryz.underlying182];simp only [h1,h2,h3,Bool.and_self,if_true,Option.map_some]

theorem zjp (a b:FK) (h:fkV a=fkV b):a=b:=by
 obtain ⟨a1,a2,a3⟩:=a;obtain ⟨b1,b2,b3⟩:=b
 simp [fkV] at h
 obtain ⟨rfl,rfl,rfl⟩:=h
 rfl

def mE:MK Tryz.prog FK FE where
 T:=178
 K:=182
 E:=95
 law:=zk3
 und:=Tryz.underlying178
 kv:=fkV
 vv:=feV
 ok:=FKok
 key:=zk2
 inj:=zjp
 z:=⟨0,0,0,0,false⟩
 zero:=fun _=>by kernel_rfl

def mC:MK Tryz.prog FK Int where
 T:=199
 K:=182
 E:=3
 law:=zk3
 und:=Tryz.underlying199
 kv:=fkV
 vv:=fun n=>.int .i64 n
 ok:=FKok
 key:=zk2
 inj:=zjp
 z:=0
 zero:=fun _=>by kernel_rfl

structure TabN (N:Nat) (w:World) (base p bm:Nat) (ks:List FK) (g:FK→Option FE):Prop where
 box:∃ao cap,w.heap[p]? = some (.cells #[.slice ao ks.length cap,.map (some bm)] 180)∧w.ownsRow base 182 3 (.slice ao ks.length cap) ks.length (fkF.all ks)
 map:MapIs mE w bm N g
 lp:base≤p
 lb:base≤bm
 oks:∀k∈ks,FKok k
 few:ks.length≤16777216

abbrev Tab:=TabN 16777216

theorem TabN.below {N:Nat} {w w':World} {base p bm:Nat} {ks:List FK} {g:FK→Option FE} (h:TabN N w base p bm ks g) (hb:Below w.heap.size w w'):TabN N w' base p bm ks g:=by
 obtain ⟨ao,cap,h1,h2⟩:=h.box;exact ⟨⟨ao,cap,za h1 hb,zl h2 hb⟩,h.map.kept hb,h.lp,h.lb,h.oks,h.few⟩

theorem fk_at {w:World} {ao:Option Addr} {len cap:Nat} {l:List FK} (h:GRow fkF w ao len cap l) (i:Nat) (hi:i < len):∃(x:FK) (b off:Nat),l[i]? = some x∧ao=some ⟨b,off,none⟩ ∧
  w.cell? ⟨b,off+i*3,none⟩=some (.int .i64 x.1)∧w.cell? ⟨b,off+i*3+1,none⟩=some (.int .i64 x.2.1)∧w.cell? ⟨b,off+i*3+2,none⟩=some (.int .i64 x.2.2):=by
 obtain ⟨x,b,off,hx,ha,hc⟩:=h.at i hi;exact ⟨x,b,off,hx,ha,hc 0 _ rfl,hc 1 _ rfl,hc 2 _ rfl⟩

theorem zlJ:(Tryz.prog.info? 182).map (fun i=>(i.zero,i.size,i.bytes))=some (some (.agg #[.int .i64 0,.int .i64 0,.int .i64 0]),fkF.k,24):=by kernel_rfl

theorem zgy (e:FE) (w:World) :
  Calls Tryz.prog 157 #[.agg #[.int .i64 e.t,.int .i64 e.m,.int .i64 e.p,.int .i64 e.a,.bool e.s]] w fun r w'=>r=.returned (.agg #[.int .i64 e.t,.int .i64 e.m,.int .i64 0])∧Below w.heap.size w w':=by
 go_enter Tryz.func157,Tryz.ntmps157;go_wp2;exact bodyPost_ret (v:=.agg #[.int .i64 e.t,.int .i64 e.m,.int .i64 0]) (by simp [results,Tryz.results157,go_sem, *]) rfl ⟨rfl,zX _ _ _⟩

end

def ze9:PT:=⟨false,0,false,⟨0,0,0,0,0⟩⟩

theorem zjU:(Tryz.prog.info? 79).map (·.size)=some ptF.k:=by kernel_rfl

theorem zgY (g p:Nat) (h1:1≤p) (h6:p≤6) (w:World) (kg:w.heap[g]? = some (.cells #[.bool false,.int .i64 1,.bool false,.int .i64 0,.int .i64 0,.int .i64 0,.int .i64 0,.int .i64 0] 79)) :
  Calls Tryz.prog 47 #[.slice (some ⟨g,0,none⟩) 1 1,.int .i64 p] w fun e w'=>∃a' c',e=.returned (.slice a' p c')∧w'.ownsRow w.heap.size 79 8 (.slice a' p c') p (ptF.all (List.replicate p newPt))∧Below w.heap.size w w':=by
 obtain ⟨i0,hi,hz0,hz1,hz2⟩:=zbw (k:=8) zk6;have hnn:¬((p:Int) < 0):=by omega
 have hwp:IntKind.u64.wrap (p:Int)=(p:Int):=by rw [IntKind.wrap_u64]; omega
 have hwq:IntKind.i64.wrap (p:Int)=(p:Int):=by rw [IntKind.wrap_i64]; omega
 have hbig:¬((9223372036854775807:Int) < (p:Int)):=by omega
 go_enter Tryz.func47,Tryz.ntmps47;go_wp2_with fail
 refine (zjH p h1 h6 _).mono ?_;rintro e w1 ⟨rfl,e1⟩;obtain rfl:=e1.symm;go_wp2_with (at_make; refine wpList_make_full _ rfl _ _ 55 rfl w.heap.size 79 i0 (.agg #[.bool false,.int .i64 0,.bool false,.int .i64 0,.int .i64 0,.int .i64 0,.int .i64 0,.int .i64 0]) 8 Tryz.underlying55 hi hz0 hz1 .i64 .i64 _ _ p rfl rfl rfl rfl ?c1 ?c2 ?c3 ?_)
 case c1=>rw [hz2]; omega
 case c2=>unfold maxLen; omega
 case c3=>exact Nat.le_refl _
 intro w1 hown hgrow;have hb1:Below w.heap.size w w1:=(Below.refl _ _).grown hgrow (Nat.le_refl _) (by intro k hk; cases hk);have hown1:w1.ownsRow w.heap.size 79 8 (.slice (some ⟨w.heap.size,0,none⟩) p p) p (ptF.all (repTo newPt ze9 p 0)):=by
  unfold repTo;rw [List.replicate_zero,List.nil_append,Nat.sub_zero]
  have:=zeB ptF ze9 p
  rw [← this];exact hown
 have kg1:=za kg hb1;obtain ⟨w2,hcp,hO2,hg2⟩:=zih ptF (P:=Tryz.prog) (tS:=55) Tryz.underlying55 zjU (x:=newPt) (z:=ze9) (m:=1) (a:=⟨g,0,none⟩) (dl:=p) (sl:=1) hown1 (by omega) (Nat.min_eq_left h1) (by
  intro j v hj;rw [zck,Nat.zero_add];rw [show w1.cell? ⟨g,j,none⟩=(#[.bool false,.int .i64 1,.bool false,.int .i64 0,.int .i64 0,.int .i64 0,.int .i64 0,.int .i64 0]:Array Value)[j]? from by simp [World.cell?,kg1],← Array.getElem?_toList];exact hj)
 have HO2:Hid (w2.ownsRow w.heap.size 79 8 (.slice (some ⟨w.heap.size,0,none⟩) p p) p (ptF.all (repTo newPt ze9 p 1))):=hide hO2;have HB2:Hid (Below w.heap.size w w2):=hide (hb1.grown hg2 hb1.size (by intro k hk; cases hk; exact Nat.le_refl _));rw [Nat.zero_mul] at hcp;clear hown hgrow hi hz0 hz1 hz2 hown1 hO2 hg2 kg1 hb1;go_wp2_with (at_builtin; refine zdk _ rfl _ _ 55 55 rfl _ _ rfl rfl (hcp _ _ _) ?_)
 go_wp2
 go_loopw [8] (fun i wr=>∃k:Nat,1≤k∧k≤p∧i=.int .i64 k∧wr.ownsRow w.heap.size 79 8 (.slice (some ⟨w.heap.size,0,none⟩) p p) p (ptF.all (repTo newPt ze9 p k))∧Below w.heap.size w wr) (fun i _=>p - (intOf i).toNat)
 case atStart=>exact ⟨1,Nat.le_refl _,h1,rfl,HO2.out,HB2.out⟩
 case round =>
  obtain ⟨k,hk1,hk,rfl,ho,hb⟩:=hrel;by_cases hlt:k < p
  ·have ho':wr.drew.ownsRow w.heap.size 79 8 (.slice (some ⟨w.heap.size,0,none⟩) p p) p (ptF.all (repTo newPt ze9 p k)):=zl ho (zr (Below.refl _ _));have hm1:Nat.min k (p - k)≤k:=Nat.min_le_left _ _;have hm2:Nat.min k (p - k)≤p - k:=Nat.min_le_right _ _;have hm3:1≤Nat.min k (p - k):=Nat.le_min.2 ⟨hk1,by omega⟩;obtain ⟨w3,hcp3,hO3,hg3⟩:=zih ptF (P:=Tryz.prog) (tS:=55) Tryz.underlying55 zjU (w:=wr.drew) (x:=newPt) (z:=ze9) (m:=Nat.min k (p - k)) (a:=⟨w.heap.size,0,none⟩) (dl:=p - k) (sl:=k) ho' (by omega) rfl (by
    intro j v hj;have hjl:=(List.getElem?_eq_some_iff.1 hj).1;rw [ptF.all_length,List.length_replicate,show ptF.k=8 from rfl] at hjl;rw [zck,Nat.zero_add,ho'.cellAt j (by omega)];unfold repTo;rw [ptF.all_append,List.getElem?_append_left (by rw [ptF.all_length,List.length_replicate,show ptF.k=8 from rfl]; omega)];rw [show List.replicate k newPt=List.replicate (Nat.min k (p - k)) newPt++List.replicate (k - Nat.min k (p - k)) newPt by rw [List.replicate_append_replicate]; congr 1; omega,ptF.all_append,List.getElem?_append_left (by rw [ptF.all_length,List.length_replicate,show ptF.k=8 from rfl]; omega)];exact hj)
   have HO:=hide hO3;have HB:=hide (hb.drew.grown hg3 (by simpa using hb.size) (by intro j hj; cases hj; exact Nat.le_refl _));have hcp:∀ty dc sc,(Builtin.copy_ #[55,55] ty #[.slice (some ⟨w.heap.size,k*8,none⟩) (p - k) dc,.slice (some ⟨w.heap.size,0,none⟩) k sc]).run Tryz.prog wr.drew=.ok (goInt (Nat.min k (p - k))) w3:=hcp3;have i1:(0:Int)≤(k:Int):=by omega
   have i2:(k:Int)≤(p:Int):=by omega
   have i3:¬(p=k):=by omega
   have i4:IntKind.i64.wrap ((k:Int)+(Nat.min k (p - k):Nat))=((k+Nat.min k (p - k):Nat):Int):=by rw [IntKind.wrap_i64]; omega
   clear hcp3 hO3 hg3 ho ho' hb;(go_wp2_with fail);refine wp_region_held_drew (S:=(fun _=>True)) (by kernel_rfl) (trivial) (fun hHeld => ?_);refine kK 0 ?_;refine kK 1 ?_;refine kK 2 ?_;refine kK 3 ?_;refine kK 4 ?_;refine kK 5 ?_;refine kK 6 ?_;refine kR 7 fun K hK => ?_
   refine zed rfl _ _ 55 55 rfl _ _ rfl rfl (hcp _ _ _) ?_;refine kO hK (trivial) fun hHeld => ?_
   clear hK K;refine kK 8 ?_;refine kK 9 ?_;refine wpAnyH_done (by kernel_rfl) ?_ _;clear hHeld;go_wp2
   go_roundw
   case rel=>exact ⟨k+Nat.min k (p - k),by omega,by omega,by go_num,HO.out,HB.out⟩
   case measure=>simp [intOf]; omega
  ·have hkp:k=p:=by omega
   subst hkp;have HO:Hid (wr.ownsRow w.heap.size 79 8 (.slice (some ⟨w.heap.size,0,none⟩) k k) k (ptF.all (List.replicate k newPt))):=hide (by
    have h:=ho;unfold repTo at h;rw [Nat.sub_self,List.replicate_zero,List.append_nil] at h;exact h)
   have HB:=hide hb;clear ho hb;go_wp2;go_ret;exact ⟨_,_,rfl,HO.out,HB.out⟩

def zn (id ports:Int):BR:=if (decide (1≤id) && decide (id≤99)) && (decide (1≤ports) && decide (ports≤6)) then zP id ports.toNat else ze8

theorem zhN (id ports:Int) (w:World):Calls Tryz.prog 32 #[.int .i64 id,.int .i64 ports] w fun e w'=>∃(a2:Option Addr) (n2 c2:Nat) (fa2:Option Addr) (fn2 fc2:Nat) (ra2:Option Addr) (rn2 rc2:Nat) (oa2:Option Addr) (on2 oc2:Nat),e=.returned (.agg #[.int .i64 (zn id ports).id,.string (zn id ports).name,.slice a2 n2 c2,.slice fa2 fn2 fc2,.slice ra2 rn2 rc2,.slice oa2 on2 oc2,.int .i64 (zn id ports).ticks,.int .i64 (zn id ports).parse,.int .i64 (zn id ports).word,.int .i64 (zn id ports).drops,.int .i64 (zn id ports).vers])∧BrOwn w' w.heap.size a2 n2 c2 fa2 fn2 fc2 ra2 rn2 rc2 oa2 on2 oc2 (zn id ports)∧Below w.heap.size w w':=by
 cases hid:(decide (1≤id) && decide (id≤99))
 ·have HE:Hid (zn id ports=ze8):=hide (by unfold zn; rw [hid]; rfl);have HID:=hide hid;clear hid;generalize hw1:w.alloc (Obj.cells #[.int .i64 0,.string ⟨#[]⟩,.slice none 0 0,.slice none 0 0,.slice none 0 0,.slice none 0 0,.int .i64 0,.int .i64 0,.int .i64 0,.int .i64 0,.int .i64 0] 61)=w1;have b1:=zb hw1;have kJ:=zk hw1;obtain ⟨u0,u1,u2,u3,u4,u5,u6,u7,u8,u9,u10⟩:=zp kJ;have fr:=zi kJ;have fr0:=fr 0;have fr1:=fr 1;have fr2:=fr 2;have fr3:=fr 3;have fr4:=fr 4;have fr5:=fr 5;have fr6:=fr 6;have fr7:=fr 7;have fr8:=fr 8;have fr9:=fr 9;have fr10:=fr 10;have HO:=hide ((zc8 w1 w.heap.size).boxed11 kJ (.int .i64 0) (.string ⟨#[]⟩) (.slice none 0 0) (.slice none 0 0) (.slice none 0 0) (.slice none 0 0) (.int .i64 0) (.int .i64 0) (.int .i64 0) (.int .i64 0) (.int .i64 0));have HB:=hide (zQ b1 (Nat.le_refl _) (.int .i64 0) (.string ⟨#[]⟩) (.slice none 0 0) (.slice none 0 0) (.slice none 0 0) (.slice none 0 0) (.int .i64 0) (.int .i64 0) (.int .i64 0) (.int .i64 0) (.int .i64 0));clear fr b1 kJ;go_enter Tryz.func32,Tryz.ntmps32;(go_wp2_with fail);refine (zh id 1 99 _).mono ?_;rintro r wx ⟨rfl,ew⟩;obtain rfl:=ew.symm;rw [HID.out];go_wp2;exact bodyPost_ret (v:=.agg #[.int .i64 0,.string ⟨#[]⟩,.slice none 0 0,.slice none 0 0,.slice none 0 0,.slice none 0 0,.int .i64 0,.int .i64 0,.int .i64 0,.int .i64 0,.int .i64 0]) (by simp [results,Tryz.results32,go_sem, *]) rfl ⟨none,0,0,none,0,0,none,0,0,none,0,0,(by rw [HE.out]; rfl),(by rw [HE.out]; exact HO.out),HB.out⟩
 cases hm:(decide (1≤ports) && decide (ports≤6))
 ·have HE:Hid (zn id ports=ze8):=hide (by unfold zn; rw [hid,hm]; rfl);have HID:=hide hid;have HM:=hide hm;clear hid hm;generalize hw1:w.alloc (Obj.cells #[.int .i64 0,.string ⟨#[]⟩,.slice none 0 0,.slice none 0 0,.slice none 0 0,.slice none 0 0,.int .i64 0,.int .i64 0,.int .i64 0,.int .i64 0,.int .i64 0] 61)=w1;have b1:=zb hw1;have kJ:=zk hw1;obtain ⟨u0,u1,u2,u3,u4,u5,u6,u7,u8,u9,u10⟩:=zp kJ;have fr:=zi kJ;have fr0:=fr 0;have fr1:=fr 1;have fr2:=fr 2;have fr3:=fr 3;have fr4:=fr 4;have fr5:=fr 5;have fr6:=fr 6;have fr7:=fr 7;have fr8:=fr 8;have fr9:=fr 9;have fr10:=fr 10;have HO:=hide ((zc8 w1 w.heap.size).boxed11 kJ (.int .i64 0) (.string ⟨#[]⟩) (.slice none 0 0) (.slice none 0 0) (.slice none 0 0) (.slice none 0 0) (.int .i64 0) (.int .i64 0) (.int .i64 0) (.int .i64 0) (.int .i64 0));have HB:=hide (zQ b1 (Nat.le_refl _) (.int .i64 0) (.string ⟨#[]⟩) (.slice none 0 0) (.slice none 0 0) (.slice none 0 0) (.slice none 0 0) (.int .i64 0) (.int .i64 0) (.int .i64 0) (.int .i64 0) (.int .i64 0));clear fr b1 kJ;go_enter Tryz.func32,Tryz.ntmps32;(go_wp2_with fail);refine (zh id 1 99 _).mono ?_;rintro r wx ⟨rfl,ew⟩;obtain rfl:=ew.symm;rw [HID.out];(go_wp2_with fail);refine (zh ports 1 6 _).mono ?_;rintro r wx ⟨rfl,ew⟩;obtain rfl:=ew.symm;rw [HM.out];go_wp2;exact bodyPost_ret (v:=.agg #[.int .i64 0,.string ⟨#[]⟩,.slice none 0 0,.slice none 0 0,.slice none 0 0,.slice none 0 0,.int .i64 0,.int .i64 0,.int .i64 0,.int .i64 0,.int .i64 0]) (by simp [results,Tryz.results32,go_sem, *]) rfl ⟨none,0,0,none,0,0,none,0,0,none,0,0,(by rw [HE.out]; rfl),(by rw [HE.out]; exact HO.out),HB.out⟩
 obtain ⟨m,rfl⟩:∃m:Nat,ports=(m:Int):=⟨ports.toNat,by simp at hm; omega⟩;have HE:Hid (zn id (m:Int)=zP id m):=hide (by unfold zn; rw [hid,hm,Int.toNat_natCast]; rfl);refine (zb7 id m w hid hm).mono ?_;rintro e w' ⟨a,c,ra,rn,rc,oa,on,oc,rfl,ho,hb⟩;rw [HE.out];exact ⟨a,m,c,none,0,0,ra,rn,rc,oa,on,oc,rfl,ho,hb⟩

theorem zho (id ports:Int) (w:World):Calls Tryz.prog 26 #[.int .i64 id,.int .i64 ports] w fun e w'=>∃(a2:Option Addr) (n2 c2:Nat) (fa2:Option Addr) (fn2 fc2:Nat) (ra2:Option Addr) (rn2 rc2:Nat) (oa2:Option Addr) (on2 oc2:Nat),e=.returned (.agg #[.int .i64 (zn id ports).id,.string (zn id ports).name,.slice a2 n2 c2,.slice fa2 fn2 fc2,.slice ra2 rn2 rc2,.slice oa2 on2 oc2,.int .i64 (zn id ports).ticks,.int .i64 (zn id ports).parse,.int .i64 (zn id ports).word,.int .i64 (zn id ports).drops,.int .i64 (zn id ports).vers])∧BrOwn w' w.heap.size a2 n2 c2 fa2 fn2 fc2 ra2 rn2 rc2 oa2 on2 oc2 (zn id ports)∧Below w.heap.size w w':=by
 cases hid:(decide (1≤id) && decide (id≤99))
 ·have HE:Hid (zn id ports=ze8):=hide (by unfold zn; rw [hid]; rfl);have HID:=hide hid;clear hid;generalize hw1:w.alloc (Obj.cells #[.int .i64 0,.string ⟨#[]⟩,.slice none 0 0,.slice none 0 0,.slice none 0 0,.slice none 0 0,.int .i64 0,.int .i64 0,.int .i64 0,.int .i64 0,.int .i64 0] 61)=w1;have b1:=zb hw1;have kJ:=zk hw1;obtain ⟨u0,u1,u2,u3,u4,u5,u6,u7,u8,u9,u10⟩:=zp kJ;have fr:=zi kJ;have fr0:=fr 0;have fr1:=fr 1;have fr2:=fr 2;have fr3:=fr 3;have fr4:=fr 4;have fr5:=fr 5;have fr6:=fr 6;have fr7:=fr 7;have fr8:=fr 8;have fr9:=fr 9;have fr10:=fr 10;have HO:=hide ((zc8 w1 w.heap.size).boxed11 kJ (.int .i64 0) (.string ⟨#[]⟩) (.slice none 0 0) (.slice none 0 0) (.slice none 0 0) (.slice none 0 0) (.int .i64 0) (.int .i64 0) (.int .i64 0) (.int .i64 0) (.int .i64 0));have HB:=hide (zQ b1 (Nat.le_refl _) (.int .i64 0) (.string ⟨#[]⟩) (.slice none 0 0) (.slice none 0 0) (.slice none 0 0) (.slice none 0 0) (.int .i64 0) (.int .i64 0) (.int .i64 0) (.int .i64 0) (.int .i64 0));clear fr b1 kJ;go_enter Tryz.func26,Tryz.ntmps26;(go_wp2_with fail);refine (zA id 1 99 _).mono ?_;rintro r wx ⟨rfl,ew⟩;obtain rfl:=ew.symm;rw [HID.out];go_wp2;exact bodyPost_ret (v:=.agg #[.int .i64 0,.string ⟨#[]⟩,.slice none 0 0,.slice none 0 0,.slice none 0 0,.slice none 0 0,.int .i64 0,.int .i64 0,.int .i64 0,.int .i64 0,.int .i64 0]) (by simp [results,Tryz.results26,go_sem, *]) rfl ⟨none,0,0,none,0,0,none,0,0,none,0,0,(by rw [HE.out]; rfl),(by rw [HE.out]; exact HO.out),HB.out⟩
 cases hm:(decide (1≤ports) && decide (ports≤6))
 ·have HE:Hid (zn id ports=ze8):=hide (by unfold zn; rw [hid,hm]; rfl);have HID:=hide hid;have HM:=hide hm;clear hid hm;generalize hw1:w.alloc (Obj.cells #[.int .i64 0,.string ⟨#[]⟩,.slice none 0 0,.slice none 0 0,.slice none 0 0,.slice none 0 0,.int .i64 0,.int .i64 0,.int .i64 0,.int .i64 0,.int .i64 0] 61)=w1;have b1:=zb hw1;have kJ:=zk hw1;obtain ⟨u0,u1,u2,u3,u4,u5,u6,u7,u8,u9,u10⟩:=zp kJ;have fr:=zi kJ;have fr0:=fr 0;have fr1:=fr 1;have fr2:=fr 2;have fr3:=fr 3;have fr4:=fr 4;have fr5:=fr 5;have fr6:=fr 6;have fr7:=fr 7;have fr8:=fr 8;have fr9:=fr 9;have fr10:=fr 10;have HO:=hide ((zc8 w1 w.heap.size).boxed11 kJ (.int .i64 0) (.string ⟨#[]⟩) (.slice none 0 0) (.slice none 0 0) (.slice none 0 0) (.slice none 0 0) (.int .i64 0) (.int .i64 0) (.int .i64 0) (.int .i64 0) (.int .i64 0));have HB:=hide (zQ b1 (Nat.le_refl _) (.int .i64 0) (.string ⟨#[]⟩) (.slice none 0 0) (.slice none 0 0) (.slice none 0 0) (.slice none 0 0) (.int .i64 0) (.int .i64 0) (.int .i64 0) (.int .i64 0) (.int .i64 0));clear fr b1 kJ;go_enter Tryz.func26,Tryz.ntmps26;(go_wp2_with fail);refine (zA id 1 99 _).mono ?_;rintro r wx ⟨rfl,ew⟩;obtain rfl:=ew.symm;rw [HID.out];(go_wp2_with fail);refine (zA ports 1 6 _).mono ?_;rintro r wx ⟨rfl,ew⟩;obtain rfl:=ew.symm;rw [HM.out];go_wp2;exact bodyPost_ret (v:=.agg #[.int .i64 0,.string ⟨#[]⟩,.slice none 0 0,.slice none 0 0,.slice none 0 0,.slice none 0 0,.int .i64 0,.int .i64 0,.int .i64 0,.int .i64 0,.int .i64 0]) (by simp [results,Tryz.results26,go_sem, *]) rfl ⟨none,0,0,none,0,0,none,0,0,none,0,0,(by rw [HE.out]; rfl),(by rw [HE.out]; exact HO.out),HB.out⟩
 obtain ⟨m,rfl⟩:∃m:Nat,ports=(m:Int):=⟨ports.toNat,by simp at hm; omega⟩;have HE:Hid (zn id (m:Int)=zP id m):=hide (by unfold zn; rw [hid,hm,Int.toNat_natCast]; rfl);have h6:1≤m∧m≤6:=by simp at hm; omega
 have HID:=hide hid;have HM:=hide hm;clear hid hm;generalize hw1:w.alloc (Obj.cells #[.int .i64 0,.string ⟨#[]⟩,.slice none 0 0,.slice none 0 0,.slice none 0 0,.slice none 0 0,.int .i64 0,.int .i64 0,.int .i64 0,.int .i64 0,.int .i64 0] 61)=w1;have b1:=zb hw1;have kJ:=zk hw1;generalize hw2:w1.alloc (Obj.cells #[.bool false,.int .i64 1,.bool false,.int .i64 0,.int .i64 0,.int .i64 0,.int .i64 0,.int .i64 0] 79)=w2;have b2:=zb hw2;have kP:=zk hw2;have b02:=zc b1 b2;have kJ:=za kJ b2;go_enter Tryz.func26,Tryz.ntmps26;go_wp2_with fail
 refine (zA id 1 99 _).mono ?_;rintro r wx ⟨rfl,ew⟩;obtain rfl:=ew.symm;rw [HID.out];go_wp2_with fail
 refine (zA (m:Int) 1 6 _).mono ?_;rintro r wx ⟨rfl,ew⟩;obtain rfl:=ew.symm;rw [HM.out];go_wp2_with fail
 refine (zgY w1.heap.size m h6.1 h6.2 _ kP).mono ?_;rintro e w3 ⟨a5,c5,rfl,o5,hb3⟩;have o5:=zL o5 (base':=w.heap.size) b02.size;have b03:=zc b02 hb3;have kJ:=za kJ hb3;clear hw1 hw2 b1 b2 b02 hb3 kP;go_wp2_with fail
 refine (zef (m:Int) _).mono ?_;rintro e w4 ⟨ra,rn,rc,oa,on,oc,rfl,hv,hb4⟩;have hv:=hv.lt (base':=w.heap.size) b03.size;have b04:=zc b03 hb4;have kJ:=za kJ hb4;have own4:BrOwn w4 w.heap.size a5 m c5 none 0 0 ra rn rc oa on oc (zP id m):=⟨zl o5 hb4,World.ownsRow_nil _ _ _ _,hv⟩;obtain ⟨u0,u1,u2,u3,u4,u5,u6,u7,u8,u9,u10⟩:=zp kJ;have fr:=zi kJ;have fr0:=fr 0;have fr1:=fr 1;have fr2:=fr 2;have fr3:=fr 3;have fr4:=fr 4;have fr5:=fr 5;have fr6:=fr 6;have fr7:=fr 7;have fr8:=fr 8;have fr9:=fr 9;have fr10:=fr 10;have HO:=hide (own4.boxed11 kJ (.int .i64 id) (.string ⟨#[]⟩) (.slice a5 m c5) (.slice none 0 0) (.slice ra rn rc) (.slice oa on oc) (.int .i64 0) (.int .i64 0) (.int .i64 0) (.int .i64 0) (.int .i64 0));have HB:=hide (zQ b04 (Nat.le_refl _) (.int .i64 id) (.string ⟨#[]⟩) (.slice a5 m c5) (.slice none 0 0) (.slice ra rn rc) (.slice oa on oc) (.int .i64 0) (.int .i64 0) (.int .i64 0) (.int .i64 0) (.int .i64 0));clear fr kJ own4 o5 hb4 hv b03 b04;go_wp2;exact bodyPost_ret (v:=.agg #[.int .i64 id,.string ⟨#[]⟩,.slice a5 m c5,.slice none 0 0,.slice ra rn rc,.slice oa on oc,.int .i64 0,.int .i64 0,.int .i64 0,.int .i64 0,.int .i64 0]) (by simp [results,Tryz.results26,go_sem, *]) rfl ⟨a5,m,c5,none,0,0,ra,rn,rc,oa,on,oc,(by rw [HE.out]; rfl),(by rw [HE.out]; exact HO.out),HB.out⟩

def zaR (B:BR):Nat→BR
 | 0=>B
 | p+1=>linkB (zaR B p) (p:Int) true
def raised (B:BR):BR:=zaR B B.ports.length
def upPt:PT:=⟨true,1,false,⟨0,0,0,0,0⟩⟩

theorem zjJ:∀m∈([1,2,3,4,5,6]:List Nat),(List.replicate m newPt).all ptOk=true∧in3 ((List.replicate m newPt).length:Int) 1 6=true∧fdbOk []=true∧zU (zbr m) ((List.replicate m newPt).length:Int)=true:=by decide

theorem zf5 {id:Int} {m:Nat} (hid:1≤id∧id≤99) (hm:1≤m∧m≤6):zz (zP id m)=true:=by
 obtain ⟨h1,h2,h3,h4⟩:=zjJ m (by
  have:m=1∨m=2∨m=3∨m=4∨m=5∨m=6:=by omega
  simpa using this)
 unfold zz zP;simp only [h1,h2,h3,h4,Bool.true_and];have h5:in3 id 1 99=true:=by unfold in3; simp; omega
 rw [h5]
 rfl

theorem zj0 (p m:Nat) (hp:p < m):(List.replicate p upPt++List.replicate (m - p) newPt).set p upPt=List.replicate (p+1) upPt++List.replicate (m - (p+1)) newPt:=by
 rw [List.set_append_right _ _ (by simp),List.length_replicate,Nat.sub_self];obtain ⟨k,hk⟩:∃k,m - p=k+1:=⟨m - p - 1,by omega⟩;rw [hk,List.replicate_succ,List.set_cons_zero,show m - (p+1)=k by omega,List.replicate_succ' (n:=p),List.append_assoc]
 rfl

theorem zig {id:Int} {m:Nat} (hid:1≤id∧id≤99) (hm:1≤m∧m≤6):∀(p:Nat),p≤m→zz (zaR (zP id m) p)=true∧(zaR (zP id m) p).id=id∧(zaR (zP id m) p).ports=List.replicate p upPt++List.replicate (m - p) newPt
 | 0,_=>⟨zf5 hid hm,rfl,by simp [zaR,zP]⟩
 | p+1,hp=>by
  obtain ⟨h1,h2,h3⟩:=zig hid hm p (by omega);have hl:(zaR (zP id m) p).ports.length=m:=by rw [h3]; simp; omega
  have ht:za9 (zaR (zP id m) p) (p:Int)=true:=by unfold za9; rw [h1,hl]; simp; omega
  have hx:(zaR (zP id m) p).ports[(p:Int).toNat]? = some newPt:=by
   rw [Int.toNat_natCast,h3,List.getElem?_append_right (by simp),List.length_replicate,Nat.sub_self];obtain ⟨k,hk⟩:∃k,m - p=k+1:=⟨m - p - 1,by omega⟩;rw [hk]
   rfl
  have e:zaR (zP id m) (p+1)=turned { zaR (zP id m) p with ports:=(zaR (zP id m) p).ports.set p upPt }:=by
   show linkB (zaR (zP id m) p) (p:Int) true=_
   unfold linkB;rw [ht,hx,Int.toNat_natCast]
   rfl
  refine ⟨zh4 h1 _ _, ?_, ?_⟩
  ·rw [e]; exact h2
  ·rw [e]
   show (zaR (zP id m) p).ports.set p upPt=_
   rw [h3];exact zj0 p m (by omega)

theorem zaI (id ports:Int):(zz (raised (zn id ports))=zz (zn id ports))∧(raised (zn id ports)).id=(zn id ports).id∧(raised (zn id ports)).ports.length=(zn id ports).ports.length∧(∀x∈(zn id ports).ports,x=newPt)∧(∀x∈(raised (zn id ports)).ports,x=upPt)∧(zz (zn id ports)=true→ports=((zn id ports).ports.length:Int)):=by
 unfold zn
 split
 ·next h =>
  simp only [Bool.and_eq_true,decide_eq_true_eq] at h;obtain ⟨m,rfl⟩:∃m:Nat,ports=(m:Int):=⟨ports.toNat,by omega⟩;rw [Int.toNat_natCast];have hl:(zP id m).ports.length=m:=by simp [zP]
  obtain ⟨h1,h2,h3⟩:=zig h.1 (m:=m) (by omega) m (Nat.le_refl _);unfold raised;rw [hl];refine ⟨by rw [h1,zf5 h.1 (by omega)],h2,by rw [h3]; simp, ?_, ?_,fun _=>rfl⟩
  ·intro x hx; exact List.eq_of_mem_replicate hx
  ·intro x hx; rw [h3] at hx; simp at hx; exact hx.2
 ·refine ⟨rfl,rfl,rfl,(by intro x hx; cases hx),(by intro x hx; cases hx),fun h => ?_⟩
  have:zz ze8=false:=by decide
  rw [this] at h;cases h

theorem zbT (id ports:Int):(zn id ports).f.length≤6∧(zn id ports).ports.length≤6∧(zn id ports).v.rows.length≤6∧(zn id ports).v.own.length≤6:=by
 unfold zn
 split
 ·next h =>
  simp only [Bool.and_eq_true,decide_eq_true_eq] at h;obtain ⟨m,rfl⟩:∃m:Nat,ports=(m:Int):=⟨ports.toNat,by omega⟩;rw [Int.toNat_natCast];unfold zP zbr;refine ⟨by simp,by simp; omega, ?_, ?_⟩
  ·split <;> simp
  ·split <;> simp <;> omega
 ·exact ⟨by decide,by decide,by decide,by decide⟩

def newBs (ids:List Int) (ports:Int):List BR:=ids.map fun i=>zn i ports
def upBs (ids:List Int) (ports:Int):List BR:=ids.map fun i=>raised (zn i ports)

theorem zc4 {ids:List Int} {ports:Int} {i:Nat} {x:BR} (h:(newBs ids ports)[i]? = some x):∃id,ids[i]? = some id∧x=zn id ports:=by
 unfold newBs at h;rw [List.getElem?_map] at h;cases hi:ids[i]? with
 | none=>rw [hi] at h; cases h
 | some id=>rw [hi] at h; exact ⟨id,rfl,(Option.some.inj h).symm⟩
theorem zd2 {ids:List Int} {ports:Int} {i:Nat} {x:BR} (h:(upBs ids ports)[i]? = some x):∃id,ids[i]? = some id∧x=raised (zn id ports):=by
 unfold upBs at h;rw [List.getElem?_map] at h;cases hi:ids[i]? with
 | none=>rw [hi] at h; cases h
 | some id=>rw [hi] at h; exact ⟨id,rfl,(Option.some.inj h).symm⟩
theorem zct {ids:List Int} {ports:Int} {i:Nat} {id:Int} (h:ids[i]? = some id):(newBs ids ports)[i]? = some (zn id ports):=by unfold newBs; rw [List.getElem?_map,h]; rfl
theorem zgj {ids:List Int} {ports:Int} {i:Nat} {id:Int} (h:ids[i]? = some id):(upBs ids ports)[i]? = some (raised (zn id ports)):=by unfold upBs; rw [List.getElem?_map,h]; rfl

theorem zie {ids:List Int} {ports b p:Int} {u:PT} (h:zak (newBs ids ports) b p=some u):u=newPt∧zak (upBs ids ports) b p=some upPt:=by
 unfold zak at h ⊢
 split at h
 ·next hc =>
  rw [if_pos hc];cases hB:(newBs ids ports)[b.toNat]? with
  | none=>rw [hB] at h; cases h
  | some B =>
   rw [hB] at h;obtain ⟨id,hi,rfl⟩:=zc4 hB;have h:(zn id ports).ports[p.toNat]? = some u:=h;obtain ⟨-,-,hl,h4,h5,-⟩:=zaI id ports;refine ⟨h4 u (List.mem_of_getElem? h), ?_⟩;rw [zgj hi]
   show (raised (zn id ports)).ports[p.toNat]? = some upPt
   have hlt:=(List.getElem?_eq_some_iff.1 h).1;obtain ⟨y,hy⟩:∃y,(raised (zn id ports)).ports[p.toNat]? = some y:=⟨_,List.getElem?_eq_getElem (by omega)⟩;rw [hy,h5 y (List.mem_of_getElem? hy)]
 ·cases h
theorem zf9 {ids:List Int} {ports b p:Int} {u:PT} (h:zak (upBs ids ports) b p=some u):u=upPt∧zak (newBs ids ports) b p=some newPt:=by
 unfold zak at h ⊢
 split at h
 ·next hc =>
  rw [if_pos hc];cases hB:(upBs ids ports)[b.toNat]? with
  | none=>rw [hB] at h; cases h
  | some B =>
   rw [hB] at h;obtain ⟨id,hi,rfl⟩:=zd2 hB;have h:(raised (zn id ports)).ports[p.toNat]? = some u:=h;obtain ⟨-,-,hl,h4,h5,-⟩:=zaI id ports;refine ⟨h5 u (List.mem_of_getElem? h), ?_⟩;rw [zct hi]
   show (zn id ports).ports[p.toNat]? = some newPt
   have hlt:=(List.getElem?_eq_some_iff.1 h).1;obtain ⟨y,hy⟩:∃y,(zn id ports).ports[p.toNat]? = some y:=⟨_,List.getElem?_eq_getElem (by omega)⟩;rw [hy,h4 y (List.mem_of_getElem? hy)]
 ·cases h

theorem zhz (ids:List Int) (ports:Int) (l:List LK):NetOk (newBs ids ports) l []↔NetOk (upBs ids ports) l []:=by
 have hq1:Quiet (newBs ids ports) l:=fun i B hB p x hx hh=>by
  obtain ⟨id,-,rfl⟩:=zc4 hB;rw [(zaI id ports).2.2.2.1 x (List.mem_of_getElem? hx)] at hh;cases hh
 have hq2:Quiet (upBs ids ports) l:=fun i B hB p x hx hh=>by
  obtain ⟨id,-,rfl⟩:=zd2 hB;rw [(zaI id ports).2.2.2.2.1 x (List.mem_of_getElem? hx)] at hh;cases hh
 have hbr:zaD (newBs ids ports)↔zaD (upBs ids ports):=by
  unfold zaD zhS;have hl:(newBs ids ports).length=(upBs ids ports).length:=by simp [newBs,upBs]
  rw [hl]
  constructor
  ·rintro ⟨h1,h2,h3,h4⟩;refine ⟨fun x hx => ?_,fun i j x y hij hx hy => ?_,h3,h4⟩
   ·obtain ⟨i,hi⟩:=List.getElem?_of_mem hx;obtain ⟨id,hid,rfl⟩:=zd2 hi;rw [(zaI id ports).1];exact h1 _ (List.mem_of_getElem? (zct hid))
   ·obtain ⟨a,ha,rfl⟩:=zd2 hx;obtain ⟨b,hb,rfl⟩:=zd2 hy;rw [(zaI a ports).2.1,(zaI b ports).2.1];exact h2 i j _ _ hij (zct ha) (zct hb)
  ·rintro ⟨h1,h2,h3,h4⟩;refine ⟨fun x hx => ?_,fun i j x y hij hx hy => ?_,h3,h4⟩
   ·obtain ⟨i,hi⟩:=List.getElem?_of_mem hx;obtain ⟨id,hid,rfl⟩:=zc4 hi;rw [← (zaI id ports).1];exact h1 _ (List.mem_of_getElem? (zgj hid))
   ·obtain ⟨a,ha,rfl⟩:=zc4 hx;obtain ⟨b,hb,rfl⟩:=zc4 hy;rw [← (zaI a ports).2.1,← (zaI b ports).2.1];exact h2 i j _ _ hij (zgj ha) (zgj hb)
 have he:∀x:LK,zce (newBs ids ports) x↔zce (upBs ids ports) x:=by
  intro x;unfold zce
  constructor
  ·rintro ⟨h,u,v,hu,hv,-⟩;exact ⟨h,upPt,upPt,(zie hu).2,(zie hv).2,rfl⟩
  ·rintro ⟨h,u,v,hu,hv,-⟩;exact ⟨h,newPt,newPt,(zf9 hu).2,(zf9 hv).2,rfl⟩
 have hln:zaW (newBs ids ports) l↔zaW (upBs ids ports) l:=by
  unfold zaW zgm
  constructor
  ·rintro ⟨h1,h2⟩;exact ⟨h1,fun x hx=>⟨(he x).1 (h2 x hx).1,(h2 x hx).2⟩⟩
  ·rintro ⟨h1,h2⟩;exact ⟨h1,fun x hx=>⟨(he x).2 (h2 x hx).1,(h2 x hx).2⟩⟩
 unfold NetOk;rw [hbr,hln];exact ⟨fun h=>⟨h.1,h.2.1,hq2,h.2.2.2⟩,fun h=>⟨h.1,h.2.1,hq1,h.2.2.2⟩⟩

theorem za1 (B:BR):∀p,lessB (zaR B p) B
 | 0=>⟨Nat.le_refl _,Nat.le_refl _,rfl⟩
 | p+1=>zfx (zjB _ _ _) (za1 B p)

end Go.Proofs.YtkcoehmpnkdinaaGreat
