/-
  Packed: VlanCopy FdbTab BrCopyS Say14 BrTurnS BrNewI.
-/
import Derived.Test.YtkoekkjfcaiagaaGreatPSKW
import Derived.Test.YtkoekkjfcaiagaaGreatPSFdbImplA
import Derived.Test.YtkoekkjfcaiagaaGreatPSK01
import Derived.Test.YtkoekkjfcaiagaaGreatPSK02
import Derived.Test.YtkoekkjfcaiagaaGreatPSK03
import Derived.Test.YtkoekkjfcaiagaaGreatPSK05
import Derived.Test.YtkoekkjfcaiagaaGreatPSK06
import Derived.Test.YtkoekkjfcaiagaaGreatPSK10
import Derived.Test.YtkoekkjfcaiagaaGreatPSK15
import Derived.Test.YtkoekkjfcaiagaaGreatPSK18
import Derived.Test.YtkoekkjfcaiagaaGreatPSVtabOkS
import Derived.Deep.RegionHeld3
import Derived.Laws.CopyRow
import Derived.Lib.AppendZeros
import Derived.Lib.Overlaps
namespace Go.Proofs.YtkoekkjfcaiagaaGreat
set_option maxRecDepth 100000
set_option maxHeartbeats 16000000
open Go.RowKit

theorem zhG (ao:Option Addr) (n cap:Nat) (l:List Int) (w:World) (h:GRow intF w ao n cap l) (hn:n≤16777216) :
  Calls Tryz.prog 190 #[.slice ao n cap] w fun r w'=>∃ao' cap',r=.returned (.slice ao' n cap')∧w'.ownsRow w.heap.size 3 1 (.slice ao' n cap') n (intF.all l)∧Below w.heap.size w w':=by
 cases ao with
 | none =>
  have hc0:=h.nil rfl;have hn0:n=0:=by have:=h.le; omega
  subst hc0 hn0;have hl:l=[]:=List.eq_nil_of_length_eq_zero h.size;subst hl;have heq:∀W,(binOp .eql 24 (.slice none 0 0) (.slice none 0 0)).run Tryz.prog W=.ok (.bool true) W:=fun _=>by kernel_rfl
  go_enter Tryz.func190,Tryz.ntmps190;go_wp2;go_ret;exact ⟨none,0,rfl,World.ownsRow_nil _ _ _ _,Below.refl _ _⟩
 | some a =>
  have heq:∀W,(binOp .eql 24 (.slice (some a) n cap) (.slice none 0 0)).run Tryz.prog W=.ok (.bool false) W:=fun _=>by kernel_rfl
  go_enter Tryz.func190,Tryz.ntmps190;go_wp2_with (at_builtin; refine zM (F:=intF) _ rfl _ _ 24 3 rfl w.heap.size Tryz.underlying24 Tryz.infoI64 rfl (by decide) _ 0 [] rfl (zaK intF w _ 3 w.heap.size (zw w _) (Nat.le_refl _)) (some a) n cap l rfl (h.below (zm _ _)) (by omega) (by simp) ?_)
  intro ao' cap' w' how hr hgr hb;have how:w'.ownsRow w.heap.size 3 1 (.slice ao' n cap') n (intF.all l):=by
   (try simp only [Nat.zero_add,List.nil_append] at how);exact how
  have HO:=hide how;have HB:=hide ((zm w _).trans hb);clear how hgr hb hr;go_wp2;go_ret;exact ⟨ao',cap',(by simp),HO.out,HB.out⟩

theorem zhJ (ao:Option Addr) (n cap:Nat) (l:List VR) (w:World) (h:GRow vrowF w ao n cap l) (hn:n≤16777216) :
  Calls Tryz.prog 189 #[.slice ao n cap] w fun r w'=>∃ao' cap',r=.returned (.slice ao' n cap')∧w'.ownsRow w.heap.size 134 3 (.slice ao' n cap') n (vrowF.all l)∧Below w.heap.size w w':=by
 cases ao with
 | none =>
  have hc0:=h.nil rfl;have hn0:n=0:=by have:=h.le; omega
  subst hc0 hn0;have hl:l=[]:=List.eq_nil_of_length_eq_zero h.size;subst hl;have heq:∀W,(binOp .eql 59 (.slice none 0 0) (.slice none 0 0)).run Tryz.prog W=.ok (.bool true) W:=fun _=>by kernel_rfl
  go_enter Tryz.func189,Tryz.ntmps189;go_wp2;go_ret;exact ⟨none,0,rfl,World.ownsRow_nil _ _ _ _,Below.refl _ _⟩
 | some a =>
  have heq:∀W,(binOp .eql 59 (.slice (some a) n cap) (.slice none 0 0)).run Tryz.prog W=.ok (.bool false) W:=fun _=>by kernel_rfl
  go_enter Tryz.func189,Tryz.ntmps189;go_wp2_with (at_builtin; refine zM (F:=vrowF) _ rfl _ _ 59 134 rfl w.heap.size Tryz.underlying59 zd4 rfl (by decide) _ 0 [] rfl (zaK vrowF w _ 134 w.heap.size (zw w _) (Nat.le_refl _)) (some a) n cap l rfl (h.below (zm _ _)) (by omega) (by simp) ?_)
  intro ao' cap' w' how hr hgr hb;have how:w'.ownsRow w.heap.size 134 3 (.slice ao' n cap') n (vrowF.all l):=by
   (try simp only [Nat.zero_add,List.nil_append] at how);exact how
  have HO:=hide how;have HB:=hide ((zm w _).trans hb);clear how hgr hb hr;go_wp2;go_ret;exact ⟨ao',cap',(by simp),HO.out,HB.out⟩

theorem zcR (a:Option Addr) (n c:Nat) (o:Option Addr) (p q:Nat) (v:VT) (w:World) (h:VTab w a n c o p q v) (hn:n≤16777216) (hp:p≤16777216) :
  Calls Tryz.prog 153 #[.agg #[.slice a n c,.slice o p q]] w fun r w'=>∃a' c' o' q',r=.returned (.agg #[.slice a' n c',.slice o' p q'])∧VOwn w' w.heap.size a' n c' o' p q' v∧Below w.heap.size w w':=by
 generalize hw1:w.alloc (Obj.cells #[Value.slice a n c,Value.slice o p q] 61)=w1;generalize hw2:w1.alloc (Obj.cells #[Value.slice none 0 0,Value.slice none 0 0] 61)=w2;have s1:w1.heap.size=w.heap.size+1:=by subst hw1; simp
 have s2:w2.heap.size=w.heap.size+1+1:=by subst hw2; simp [s1]
 have hk1:=zk hw2;have b01:=zb hw1;have vb:Below w1.heap.size w1 w2.drew:=by subst hw2; exact zp (zm _ _)
 have bw:Below w.heap.size w w2:=by subst hw2; exact zc b01 (zm _ _)
 have vv:Below w2.heap.size w2 w2.drew:=zp (Below.refl _ _);have HL:Hid (∀b,some w1.heap.size=some b→b < w2.heap.size):=hide (by intro b hb; cases hb; omega);clear s1 s2;go_enter Tryz.func153,Tryz.ntmps153;go_wp2_with fail
 refine wp_region_held_drew (S:=(fun W=>W.cell? ⟨w.heap.size,0,none⟩=some (.slice a n c)∧W.cell? ⟨w.heap.size,1,none⟩=some (.slice o p q))) (by kernel_rfl) (zaA hw1 vb) (fun hHeld => ?_);refine kK 0 ⟨some 3,.fieldAddr 61 (.tmp 1) 0,0,"l09_vlan.go:115",#[],none⟩ ?_;refine kK 1 ⟨some 4,.load 59 (.tmp 3),59,"l09_vlan.go:115",#[⟨0,.data⟩],none⟩ ?_;refine kK 3 ⟨some 6,.fieldAddr 61 (.tmp 1) 1,0,"l09_vlan.go:115",#[],none⟩ ?_;refine kK 4 ⟨some 7,.load 24 (.tmp 6),24,"l09_vlan.go:115",#[⟨3,.data⟩],none⟩ ?_;refine kR 2 ⟨some 5,.call ⟨.value (.func 189),#[.tmp 4],#[59]⟩,59,"l09_vlan.go:115",#[⟨1,.data⟩],none⟩ (fun K hK => ?_);go_simp;refine (zhJ a n c v.rows _ (h.rows.below (zc bw vv)) hn).mono ?_;rintro e wx ⟨aR,cR,rfl,how,hbx⟩;have hR:=zF how (base':=w2.heap.size) vv.size
 try have hI:=zh hI hbx
 have vv:=zc vv hbx;have vb:=zc vb hbx;clear how hbx;go_wp2_with fail
 refine hK.out _ _ (zaA hw1 vb) (fun hHeld => ?_);clear hK K
 try simp only [Act.put,lA,lB,lC]
 refine kR 5 ⟨some 8,.call ⟨.value (.func 190),#[.tmp 7],#[24]⟩,24,"l09_vlan.go:115",#[⟨4,.data⟩,⟨2,.chain⟩],none⟩ (fun K hK => ?_);go_simp;refine (zhG o p q v.own _ ((h.own.below (zc bw vv)).flat) hp).mono ?_;rintro e wx ⟨aI,cI',rfl,how,hbx⟩;have hI:=zF how (base':=w2.heap.size) vv.size
 try have hR:=zh hR hbx
 have vv:=zc vv hbx;have vb:=zc vb hbx;clear how hbx;go_wp2_with fail
 refine hK.out _ _ (zaA hw1 vb) (fun hHeld => ?_);clear hK K
 try simp only [Act.put,lA,lB,lC]
 refine kK 6 ⟨some 9,.build 61 #[(0,.tmp 5),(1,.tmp 8)],61,"l09_vlan.go:115",#[⟨2,.data⟩,⟨5,.data⟩],none⟩ ?_;refine kR 7 ⟨none,.store 61 (.tmp 2) (.tmp 9),0,"l09_vlan.go:115",#[⟨6,.data⟩,⟨5,.chain⟩,⟨0,.phase⟩,⟨1,.phase⟩,⟨2,.phase⟩,⟨3,.phase⟩,⟨4,.phase⟩,⟨5,.phase⟩,⟨6,.phase⟩],none⟩ (fun K hK => ?_);obtain ⟨⟨g0,g1⟩,f0,f1⟩:=zau (za hk1 vv);go_simp;have hR:=zG (zG hR (zn (rb:=w1.heap.size) 0 (.slice aR n cR)) HL.out) (zn (rb:=w1.heap.size) 1 (.slice aI p cI')) HL.out;have hI:=zG (zG hI (zn (rb:=w1.heap.size) 0 (.slice aR n cR)) HL.out) (zn (rb:=w1.heap.size) 1 (.slice aI p cI')) HL.out;have vb:=zu (zu vb (Nat.le_refl _) 0 (.slice aR n cR)) (Nat.le_refl _) 1 (.slice aI p cI');refine hK.out _ _ (zaA hw1 vb) (fun hHeld => ?_);clear hK K
 try simp only [Act.put,lA,lB,lC]
 refine wpAnyH_done (by kernel_rfl) ?_ _;have HR:=hide hR;have HI:=hide hI;clear hR hI;go_wp2;refine bodyPost_ret (v:=.agg #[.slice aR n cR,.slice aI p cI']) (by simp [results,Tryz.results153,go_sem, *]) rfl ⟨_,_,_,_,rfl,⟨zF HR.out bw.size,zF (by rw [← zce]; exact HI.out) bw.size,h.own.byte⟩,zc b01 vb⟩

section
open Go.RowKit Go.Maps

def fkF:Flat FK where
 k:=3
 cs:=fun k=>[.int .i64 k.1,.int .i64 k.2.1,.int .i64 k.2.2]
 len:=fun _=>rfl
 pos:=by decide
 one:=fun _ v hv=>by
  simp only [List.mem_cons,List.not_mem_nil,or_false] at hv;rcases hv with rfl | rfl | rfl <;> rfl

theorem wf_of {n:Int} (h : -9223372036854775808≤n∧n≤9223372036854775807):(Lit.int .i64 n).wf=true:=by
 simp [Lit.wf,IntKind.min,IntKind.max,IntKind.bits,IntKind.signed]
 omega

theorem zjX:laidOutB Tryz.prog=true:=by kernel_rfl
theorem zkr:(222:TypeId) < Tryz.prog.types.size:=of_decide_eq_true (by kernel_rfl)
theorem zjY:(match Tryz.prog.underlying 222 with | some (.array _ _) | some (.struct _)=>true | _=>false)=true:=by kernel_rfl
theorem zjQ:Keyed Tryz.prog 222:=Keyed.of_law (deep_law_laid zjX (m:=2) (by omega) zkr (by kernel_rfl) zjY)

def fkV (k:FK):Value:=.agg #[.int .i64 k.1,.int .i64 k.2.1,.int .i64 k.2.2]
def feV (e:FE):Value:=.agg #[.int .i64 e.t,.int .i64 e.m,.int .i64 e.p,.int .i64 e.a,.bool e.s]

theorem zjP (k:FK) (h:FKok k):∃l,keyOf Tryz.prog 222 (fkV k)=some l:=by
 have w1:=wf_of h.1;have w2:=wf_of h.2.1;have w3:=wf_of h.2.2;have h1:Tryz.prog.keyType 222=true:=by kernel_rfl
 have hc3:Tryz.prog.cellsOf 222=3:=by kernel_rfl
 have hc1:Tryz.prog.cellsOf 3=1:=by kernel_rfl
 have h2:(fkV k).formed Tryz.prog 222=true:=by simp [fkV,Value.formed,Tryz.underlying222,hc3]
 obtain ⟨q,hq⟩:∃q,Tryz.prog.types.size=q+1:=⟨Tryz.prog.types.size - 1,by have:0 < Tryz.prog.types.size:=of_decide_eq_true (by kernel_rfl); omega⟩;have h3:Tryz.prog.keyLits (Tryz.prog.types.size+1) 222 (fkV k).cells.toList=some [.int .i64 k.1,.int .i64 k.2.1,.int .i64 k.2.2]:=by
  rw [hq]
  simp [Program.keyLits,fkV,Value.cells,Tryz.underlying222,Tryz.underlying3,hc3,hc1,w1,w2,w3]
 refine ⟨.string (keyBytes [.int .i64 k.1,.int .i64 k.2.1,.int .i64 k.2.2]), ?_⟩;unfold keyOf;rw [Tryz.underlying222];simp only [h1,h2,h3,Bool.and_self,if_true,Option.map_some]

theorem zik (a b:FK) (h:fkV a=fkV b):a=b:=by
 obtain ⟨a1,a2,a3⟩:=a;obtain ⟨b1,b2,b3⟩:=b
 simp [fkV] at h
 obtain ⟨rfl,rfl,rfl⟩:=h
 rfl

def mE:MK Tryz.prog FK FE where
 T:=218
 K:=222
 E:=131
 law:=zjQ
 und:=Tryz.underlying218
 kv:=fkV
 vv:=feV
 ok:=FKok
 key:=zjP
 inj:=zik
 z:=⟨0,0,0,0,false⟩
 zero:=fun _=>by kernel_rfl

def mC:MK Tryz.prog FK Int where
 T:=234
 K:=222
 E:=3
 law:=zjQ
 und:=Tryz.underlying234
 kv:=fkV
 vv:=fun n=>.int .i64 n
 ok:=FKok
 key:=zjP
 inj:=zik
 z:=0
 zero:=fun _=>by kernel_rfl

structure TabN (N:Nat) (w:World) (base p bm:Nat) (ks:List FK) (g:FK→Option FE):Prop where
 box:∃ao cap,w.heap[p]?=some (.cells #[.slice ao ks.length cap,.map (some bm)] 220)∧w.ownsRow base 222 3 (.slice ao ks.length cap) ks.length (fkF.all ks)
 map:MapIs mE w bm N g
 lp:base≤p
 lb:base≤bm
 oks:∀k∈ks,FKok k
 few:ks.length≤16777216

abbrev Tab:=TabN 16777216

theorem TabN.below {N:Nat} {w w':World} {base p bm:Nat} {ks:List FK} {g:FK→Option FE} (h:TabN N w base p bm ks g) (hb:Below w.heap.size w w'):TabN N w' base p bm ks g:=by
 obtain ⟨ao,cap,h1,h2⟩:=h.box;exact ⟨⟨ao,cap,za h1 hb,zh h2 hb⟩,h.map.kept hb,h.lp,h.lb,h.oks,h.few⟩

theorem fk_at {w:World} {ao:Option Addr} {len cap:Nat} {l:List FK} (h:GRow fkF w ao len cap l) (i:Nat) (hi:i < len):∃(x:FK) (b off:Nat),l[i]?=some x∧ao=some ⟨b,off,none⟩ ∧
  w.cell? ⟨b,off+i*3,none⟩=some (.int .i64 x.1)∧w.cell? ⟨b,off+i*3+1,none⟩=some (.int .i64 x.2.1)∧w.cell? ⟨b,off+i*3+2,none⟩=some (.int .i64 x.2.2):=by
 obtain ⟨x,b,off,hx,ha,hc⟩:=h.at i hi;exact ⟨x,b,off,hx,ha,hc 0 _ rfl,hc 1 _ rfl,hc 2 _ rfl⟩

theorem zkq:(Tryz.prog.info? 222).map (fun i=>(i.zero,i.size,i.bytes))=some (some (.agg #[.int .i64 0,.int .i64 0,.int .i64 0]),fkF.k,24):=by kernel_rfl

theorem zfP (e:FE) (w:World) :
  Calls Tryz.prog 210 #[.agg #[.int .i64 e.t,.int .i64 e.m,.int .i64 e.p,.int .i64 e.a,.bool e.s]] w fun r w'=>r=.returned (.agg #[.int .i64 e.t,.int .i64 e.m,.int .i64 0])∧Below w.heap.size w w':=by
 go_enter Tryz.func210,Tryz.ntmps210;go_wp2;exact bodyPost_ret (v:=.agg #[.int .i64 e.t,.int .i64 e.m,.int .i64 0]) (by simp [results,Tryz.results210,go_sem, *]) rfl ⟨rfl,zP _ _ _⟩

end

theorem za8 (a:Option Addr) (n c:Nat) (fa:Option Addr) (fn fc:Nat) (ra:Option Addr) (rn rc:Nat) (oa:Option Addr) (on oc:Nat) (B:BR) (w:World) (h:BrRow w a n c fa fn fc ra rn rc oa on oc B) (hn:n≤16777216) (hfn:fn≤16777216) (hrn:rn≤16777216) (hon:on≤16777216) :
  Calls Tryz.prog 93 #[.agg #[.int .i64 B.id,.string B.name,.slice a n c,.slice fa fn fc,.slice ra rn rc,.slice oa on oc,.int .i64 B.ticks,.int .i64 B.parse,.int .i64 B.word,.int .i64 B.drops,.int .i64 B.vers]] w fun e w'=>∃(a2:Option Addr) (c2:Nat) (fa2:Option Addr) (fc2:Nat) (ra2:Option Addr) (rc2:Nat) (oa2:Option Addr) (oc2:Nat),e=.returned (.agg #[.int .i64 B.id,.string B.name,.slice a2 n c2,.slice fa2 fn fc2,.slice ra2 rn rc2,.slice oa2 on oc2,.int .i64 B.ticks,.int .i64 B.parse,.int .i64 B.word,.int .i64 B.drops,.int .i64 B.vers])∧BrOwn w' w.heap.size a2 n c2 fa2 fn fc2 ra2 rn rc2 oa2 on oc2 B∧Below w.heap.size w w':=by
 generalize hw1:w.alloc (Obj.cells #[.int .i64 B.id,.string B.name,.slice a n c,.slice fa fn fc,.slice ra rn rc,.slice oa on oc,.int .i64 B.ticks,.int .i64 B.parse,.int .i64 B.word,.int .i64 B.drops,.int .i64 B.vers] 63)=w1;generalize hw2:w1.alloc (Obj.cells #[.int .i64 0,.string ⟨#[]⟩,.slice none 0 0,.slice none 0 0,.slice none 0 0,.slice none 0 0,.int .i64 0,.int .i64 0,.int .i64 0,.int .i64 0,.int .i64 0] 63)=w2;generalize hw3:w2.alloc (Obj.cells #[.int .i64 B.id,.string B.name,.slice a n c,.slice fa fn fc,.slice ra rn rc,.slice oa on oc,.int .i64 B.ticks,.int .i64 B.parse,.int .i64 B.word,.int .i64 B.drops,.int .i64 B.vers] 63)=w3;generalize hw4:w3.alloc (Obj.cells #[] 67)=w4;have b01:=zb hw1;have b12:=zb hw2;have b23:=zb hw3;have b34:=zb hw4;have z1:w.heap.size < w1.heap.size:=by rw [← hw1]; simp
 have z2:w1.heap.size < w2.heap.size:=by rw [← hw2]; simp
 have k1:=zk hw1;have kA2:=za k1 b12;have kA4:=za (za kA2 b23) b34;have st4:BcSt w w4 w1.heap.size w2.heap.size #[.int .i64 B.id,.string B.name,.slice a n c,.slice fa fn fc,.slice ra rn rc,.slice oa on oc,.int .i64 B.ticks,.int .i64 B.parse,.int .i64 B.word,.int .i64 B.drops,.int .i64 B.vers]:=BcSt.later ⟨by rw [← hw3]; exact zw _ _,za (zk hw2) b23,zc (zc b01 b12) b23,by omega,Nat.le_of_lt z1,Nat.ne_of_lt z2⟩ b34;have k4:=zk hw4;have b03:=zc (zc b01 b12) b23;have nil4:w4.ownsRow w.heap.size 67 8 (.slice (some ⟨w3.heap.size,0,none⟩) 0 0) 0 (ptF.all []):=zaK ptF w w4 67 w3.heap.size k4 b03.size;have HZ1:=hide z1;have HZ2:=hide z2;have nAX:¬w.heap.size=w2.heap.size:=by omega
 have nXA:¬w2.heap.size=w.heap.size:=by omega
 obtain ⟨x0,x1,x2,x3,x4,x5,x6,x7,x8,x9,x10⟩:=zr kA2;have SZ23:=hide b23.size;clear z1 z2 b01 b12 b23 b34 k1 b03;go_enter Tryz.func93,Tryz.ntmps93;go_upto_region 2 with fail
 clear x0 x1 x2 x3 x4 x5 x6 x7 x8 x9 x10 hw1 hw2 hw3;obtain ⟨x0,x1,x2,x3,x4,x5,x6,x7,x8,x9,x10⟩:=zr kA4;have HST:=hide st4;have HKA:=hide kA4;have HN4:=hide nil4;have hp4:=h.ports.below st4.below;have hs4:=st4.below.size;clear st4 kA4 kA2;go_wp2_with (at_builtin; refine zes _ rfl _ _ rfl w.heap.size _ 0 [] rfl nil4 a n c B.ports rfl hp4 (by omega) hs4 ?_)
 intro a4 c4 w5 o5 hr5 hg5 hb5;have o5:w5.ownsRow w.heap.size 67 8 (.slice a4 n c4) n (ptF.all B.ports):=by simpa using o5
 have st5:=HST.out.grown HN4.out (by decide) hg5 hb5;have kA5:=ze HKA.out hg5 (fun i e=>by have h1:=(HN4.out.lt i e).1; have h2:i=w3.heap.size:=(Option.some.inj e).symm; have h3:=HZ2.out; have h4:=HZ1.out; have h5:w2.heap.size≤w3.heap.size:=SZ23.out; omega)
 try simp only [Nat.zero_add]
 clear x0 x1 x2 x3 x4 x5 x6 x7 x8 x9 x10 hr5 hg5 hb5 nil4 hp4 hs4 HST HKA HN4;generalize hX:w2.heap.size=X at *;generalize hR:w1.heap.size=R at *;have st6:=st5.put 2 (.slice a4 n c4) (cs':=#[.int .i64 B.id,.string B.name,.slice a4 n c4,.slice fa fn fc,.slice ra rn rc,.slice oa on oc,.int .i64 B.ticks,.int .i64 B.parse,.int .i64 B.word,.int .i64 B.drops,.int .i64 B.vers]) rfl;have o6:=st5.stay o5 (by decide) 2 (.slice a4 n c4);have kA6:=zas (b:=X) (j:=2) (u:=.slice a4 n c4) kA5 nAX;obtain ⟨y0,y1,y2,y3,y4,y5,y6,y7,y8,y9,y10⟩:=zr st5.box;have f2:=zf st5.box 2;generalize hw6:w5.setCell ⟨X,2,none⟩ (.slice a4 n c4)=w6 at st6 o6 kA6;go_upto_region 3 with fail
 try rw [hw6]
 clear y0 y1 y2 y3 y4 y5 y6 y7 y8 y9 y10 f2 hw6 st5 o5 kA5;obtain ⟨x0,x1,x2,x3,x4,x5,x6,x7,x8,x9,x10⟩:=zr kA6;go_wp2_with fail
 refine (zfz fa fn fc B.f _ (h.f.below st6.below) hfn).mono ?_;rintro e w7 ⟨fa6,fc6,rfl,oF,-,hb7⟩;have st7:=st6.later hb7;have o7:=zh o6 hb7;have oF:=zF oF (base':=w.heap.size) st6.below.size;have kA7:=za kA6 hb7;clear x0 x1 x2 x3 x4 x5 x6 x7 x8 x9 x10 hb7 o6 st6 kA6;obtain ⟨y0,y1,y2,y3,y4,y5,y6,y7,y8,y9,y10⟩:=zr st7.box;have f3:=zf st7.box 3;have st8:=st7.put 3 (.slice fa6 fn fc6) (cs':=#[.int .i64 B.id,.string B.name,.slice a4 n c4,.slice fa6 fn fc6,.slice ra rn rc,.slice oa on oc,.int .i64 B.ticks,.int .i64 B.parse,.int .i64 B.word,.int .i64 B.drops,.int .i64 B.vers]) rfl;have o8:=st7.stay o7 (by decide) 3 (.slice fa6 fn fc6);have oF8:=st7.stay oF (by decide) 3 (.slice fa6 fn fc6);have kA8:=zas (b:=X) (j:=3) (u:=.slice fa6 fn fc6) kA7 nAX;generalize hw8:w7.setCell ⟨X,3,none⟩ (.slice fa6 fn fc6)=w8 at st8 o8 oF8 kA8;go_upto_region 4 with fail
 try rw [hw8]
 clear y0 y1 y2 y3 y4 y5 y6 y7 y8 y9 y10 f3 hw8 st7 o7 oF kA7;obtain ⟨x0,x1,x2,x3,x4,x5,x6,x7,x8,x9,x10⟩:=zr kA8;go_wp2_with fail
 refine (zeO ra rn rc oa on oc B.v _ (h.v.below st8.below) hrn hon).mono ?_;rintro e w9 ⟨ra8,rc8,oa8,oc8,rfl,oV,hb9⟩;have st9:=st8.later hb9;have own9:BrOwn w9 w.heap.size a4 n c4 fa6 fn fc6 ra8 rn rc8 oa8 on oc8 B:=⟨zh o8 hb9,zh oF8 hb9,oV.lt (base':=w.heap.size) st8.below.size⟩;clear x0 x1 x2 x3 x4 x5 x6 x7 x8 x9 x10 hb9 o8 oF8 kA8 st8 oV;have st10:=(st9.put 4 (.slice ra8 rn rc8) rfl).put 5 (.slice oa8 on oc8) (cs':=#[.int .i64 B.id,.string B.name,.slice a4 n c4,.slice fa6 fn fc6,.slice ra8 rn rc8,.slice oa8 on oc8,.int .i64 B.ticks,.int .i64 B.parse,.int .i64 B.word,.int .i64 B.drops,.int .i64 B.vers]) rfl;have own10:=(own9.boxed st9.box 4 (.slice ra8 rn rc8)).boxed (st9.put 4 (.slice ra8 rn rc8) rfl).box 5 (.slice oa8 on oc8);obtain ⟨y0,y1,y2,y3,y4,y5,y6,y7,y8,y9,y10⟩:=zr st9.box;have f4:=zf st9.box 4;have f5:=zf st9.box 5;obtain ⟨u0,u1,u2,u3,u4,u5,u6,u7,u8,u9,u10⟩:=zr st9.res;have fr:=zf st9.res;have fr0:=fr 0;have fr1:=fr 1;have fr2:=fr 2;have fr3:=fr 3;have fr4:=fr 4;have fr5:=fr 5;have fr6:=fr 6;have fr7:=fr 7;have fr8:=fr 8;have fr9:=fr 9;have fr10:=fr 10;have ne1:¬X=R:=fun e=>st9.ne e.symm
 have ne2:¬R=X:=st9.ne;obtain ⟨HO0,HB0⟩:=st10.out own10 (.int .i64 B.id) (.string B.name) (.slice a4 n c4) (.slice fa6 fn fc6) (.slice ra8 rn rc8) (.slice oa8 on oc8) (.int .i64 B.ticks) (.int .i64 B.parse) (.int .i64 B.word) (.int .i64 B.drops) (.int .i64 B.vers);have HO:=hide HO0;have HB:=hide HB0;clear fr st9 st10 own9 own10 HO0 HB0;go_wp2;exact bodyPost_ret (v:=.agg #[.int .i64 B.id,.string B.name,.slice a4 n c4,.slice fa6 fn fc6,.slice ra8 rn rc8,.slice oa8 on oc8,.int .i64 B.ticks,.int .i64 B.parse,.int .i64 B.word,.int .i64 B.drops,.int .i64 B.vers]) (by simp [results,Tryz.results93,go_sem, *]) rfl ⟨a4,c4,fa6,fc6,ra8,rc8,oa8,oc8,rfl,HO.out,HB.out⟩

theorem zcn (a:Option Addr) (n c:Nat) (fa:Option Addr) (fn fc:Nat) (ra:Option Addr) (rn rc:Nat) (oa:Option Addr) (on oc:Nat) (B:BR) (port:Int) (w:World) (h:BrRow w a n c fa fn fc ra rn rc oa on oc B) :
  Calls Tryz.prog 94 #[.agg #[.int .i64 B.id,.string B.name,.slice a n c,.slice fa fn fc,.slice ra rn rc,.slice oa on oc,.int .i64 B.ticks,.int .i64 B.parse,.int .i64 B.word,.int .i64 B.drops,.int .i64 B.vers],.int .i64 port] w fun e w'=>e=.returned (.bool (zaW B port))∧Below w.heap.size w w':=by
 have hle:=h.ports.le;have htop:=h.ports.top;unfold maxLen at htop;have HTB:Hid (zaW B port=(zx B && (decide (0≤port) && decide (port≤(n:Int) - 1)))):=hide (by unfold zaW; rw [h.ports.size]);generalize hw1:w.alloc (Obj.cells #[.int .i64 B.id,.string B.name,.slice a n c,.slice fa fn fc,.slice ra rn rc,.slice oa on oc,.int .i64 B.ticks,.int .i64 B.parse,.int .i64 B.word,.int .i64 B.drops,.int .i64 B.vers] 63)=w1;have b01:=zb hw1;have k1:=zk hw1;obtain ⟨x0,x1,x2,x3,x4,x5,x6,x7,x8,x9,x10⟩:=zr k1;cases hok:zx B
 ·have HQ:Hid (zaW B port=false):=hide (by rw [HTB.out,hok]; rfl);have HOK:=hide hok;clear hok;go_enter Tryz.func94,Tryz.ntmps94;(go_wp2_with fail);refine (zba a n c fa fn fc ra rn rc oa on oc B _ (h.below b01)).mono ?_;rintro e w2 ⟨rfl,hb2⟩;rw [HOK.out];have HB:=hide (zc b01 hb2);clear x0 x1 x2 x3 x4 x5 x6 x7 x8 x9 x10 hb2;go_wp2;go_ret;exact ⟨(by rw [HQ.out]; rfl),HB.out⟩
 ·have HOK:=hide hok;have HQ:Hid (zaW B port=(decide (0≤port) && decide (port≤(n:Int) - 1))):=hide (by rw [HTB.out,hok]; rfl);clear hok;go_enter Tryz.func94,Tryz.ntmps94;(go_wp2_with fail);refine (zba a n c fa fn fc ra rn rc oa on oc B _ (h.below b01)).mono ?_;rintro e w2 ⟨rfl,hb2⟩;rw [HOK.out];have HB:=hide (zc b01 hb2);have k2:=za k1 hb2;clear x0 x1 x2 x3 x4 x5 x6 x7 x8 x9 x10 hb2;obtain ⟨x0,x1,x2,x3,x4,x5,x6,x7,x8,x9,x10⟩:=zr k2;(go_wp2_with fail);refine (zg port 0 ((n:Int) - 1) _).mono ?_;rintro r w3 ⟨rfl,ew⟩;obtain rfl:=ew.symm;go_wp2;go_ret;exact ⟨(by rw [HQ.out]; rfl),HB.out⟩

theorem zev (N:NV) (k i:Nat) (x:LK) (y:BV) (w:World) (h:zax w N) (hx:N.ls[k]?=some x) (hy0:N.bs[i]?=some y) (hi:x.a=(i:Int)) :
  Calls Tryz.prog 76 #[.agg #[.slice N.ba N.bn N.bc,.slice N.la N.ln N.lc,.slice N.sa N.sn N.sc],.int .i64 (k:Int),.bool false] w fun e w'=>e=.returned (.agg #[.int .i64 (sayV y.B.id y.B.ports x.p).r,.int .i64 (sayV y.B.id y.B.ports x.p).c,.int .i64 (sayV y.B.id y.B.ports x.p).h,.int .i64 (sayV y.B.id y.B.ports x.p).b,.int .i64 (sayV y.B.id y.B.ports x.p).p])∧Below w.heap.size w w':=by
 have hk:k < N.ln:=by have:=(List.getElem?_eq_some_iff.1 hx).1; have:=h.l.size; omega
 have hib:i < N.bn:=by have:=(List.getElem?_eq_some_iff.1 hy0).1; have:=h.b.size; omega
 generalize hw1:w.alloc (Obj.cells #[.slice N.ba N.bn N.bc,.slice N.la N.ln N.lc,.slice N.sa N.sn N.sc] 31)=w1;generalize hw2:w1.alloc (Obj.cells #[.int .i64 0,.int .i64 0,.int .i64 0,.int .i64 0,.int .i64 0] 65)=w2;have b01:=zb hw1;have b12:=zb hw2;have b02:=zc b01 b12;have kP:=za (zk hw1) b12;have kJ:=zk hw2;have HZ1:Hid (w1.heap.size=w.heap.size+1):=hide (by rw [← hw1]; simp);have HZ2:Hid (w2.heap.size=w.heap.size+2):=hide (by rw [← hw2,← hw1]; simp);obtain ⟨x',lb,lo,hx',hla,a0,a1,a2,a3⟩:=zaF (h.l.below b02) k hk;rw [hx] at hx';cases hx';obtain ⟨y',bb,off,hy',hba,-⟩:=br_at h.b i hib;rw [hy0] at hy';cases hy';have hy:=h.item y (List.mem_of_getElem? hy0);have hG:GRow brF w (some ⟨bb,off,none⟩) N.bn N.bc N.bs:=by rw [← hba]; exact h.b
 have HBC:Hid (∀W,Below w.heap.size w W→W.cell? ⟨bb,off+i*11,none⟩=some (.int .i64 y.B.id)∧W.cell? ⟨bb,off+i*11+2,none⟩=some (.slice y.a y.n y.c)):=hide (fun W hW=>by have:=zQ hG hW hy0; exact ⟨this.1,this.2.2.1⟩);have HBA:=hide hba;obtain ⟨x0,x1,x2⟩:=zd kP;rw [hla] at x1;have i1:(0:Int)≤(k:Int):=by omega
 have i2:(k:Int) < (N.ln:Int):=by omega
 have i3:(0:Int)≤(i:Int):=by omega
 have i4:(i:Int) < (N.bn:Int):=by omega
 clear hla hba hx hy0 hG;go_enter Tryz.func76,Tryz.ntmps76;obtain ⟨xa,xp,xb,xq⟩:=x;dsimp only at hi a0 a1 a2 a3 ⊢;subst hi;go_upto_region 4 with fail
 generalize hw3:w2.alloc (Obj.cells #[.int .i64 (i:Int),.int .i64 xp,.int .i64 xb,.int .i64 xq] 44)=w3;have b23:=zb hw3;have kL:=zk hw3;have kP:=za kP b23;have kJ:=za kJ b23;have b3:=zc b02 b23;have vv:Below w3.heap.size w3 w3.drew:=zp (Below.refl _ _);clear hw3 b23 x0 x1 x2 a0 a1 a2 a3;refine wp_region_held_drew (S:=(fun W=>(W.cell? ⟨w.heap.size,0,none⟩=some (.slice (some ⟨bb,off,none⟩) N.bn N.bc)∧W.cell? ⟨w.heap.size,1,none⟩=some (.slice N.la N.ln N.lc)∧W.cell? ⟨w.heap.size,2,none⟩=some (.slice N.sa N.sn N.sc))∧(W.cell? ⟨w2.heap.size,0,none⟩=some (.int .i64 (i:Int))∧W.cell? ⟨w2.heap.size,1,none⟩=some (.int .i64 xp)∧W.cell? ⟨w2.heap.size,2,none⟩=some (.int .i64 xb)∧W.cell? ⟨w2.heap.size,3,none⟩=some (.int .i64 xq))∧(W.cell? ⟨bb,off+i*11,none⟩=some (.int .i64 y.B.id)∧W.cell? ⟨bb,off+i*11+2,none⟩=some (.slice y.a y.n y.c)))) (by kernel_rfl) (⟨by have:=zd (za kP vv); rw [HBA.out] at this; exact this,zK (za kL vv),(HBC.out _ (zc b3 vv)).1,(HBC.out _ (zc b3 vv)).2⟩) (fun hHeld => ?_);refine kK 0 ⟨some 31,.fieldAddr 31 (.tmp 3) 0,0,"l14_step.go:11",#[],none⟩ ?_;refine kK 1 ⟨some 32,.load 28 (.tmp 31),28,"l14_step.go:11",#[⟨0,.data⟩],none⟩ ?_;refine kK 2 ⟨some 33,.fieldAddr 44 (.tmp 7) 0,0,"l14_step.go:11",#[],none⟩ ?_;refine kK 3 ⟨some 34,.load 3 (.tmp 33),3,"l14_step.go:11",#[⟨2,.data⟩],none⟩ ?_;refine kK 4 ⟨some 35,.indexAddr 28 (.tmp 32) (.tmp 34),0,"l14_step.go:11",#[⟨1,.data⟩,⟨3,.data⟩],none⟩ ?_;refine kK 5 ⟨some 36,.fieldAddr 63 (.tmp 35) 0,0,"l14_step.go:11",#[⟨4,.data⟩],none⟩ ?_;refine kK 6 ⟨some 37,.load 3 (.tmp 36),3,"l14_step.go:11",#[⟨5,.data⟩],none⟩ ?_;refine kK 7 ⟨some 38,.fieldAddr 31 (.tmp 3) 0,0,"l14_step.go:11",#[],none⟩ ?_;refine kK 8 ⟨some 39,.load 28 (.tmp 38),28,"l14_step.go:11",#[⟨7,.data⟩],none⟩ ?_;refine kK 9 ⟨some 40,.fieldAddr 44 (.tmp 7) 0,0,"l14_step.go:11",#[],none⟩ ?_;refine kK 10 ⟨some 41,.load 3 (.tmp 40),3,"l14_step.go:11",#[⟨9,.data⟩],none⟩ ?_;refine kK 11 ⟨some 42,.indexAddr 28 (.tmp 39) (.tmp 41),0,"l14_step.go:11",#[⟨8,.data⟩,⟨10,.data⟩],none⟩ ?_;refine kK 12 ⟨some 43,.fieldAddr 63 (.tmp 42) 2,0,"l14_step.go:11",#[⟨11,.data⟩],none⟩ ?_;refine kK 13 ⟨some 44,.load 57 (.tmp 43),57,"l14_step.go:11",#[⟨12,.data⟩],none⟩ ?_;refine kK 14 ⟨some 45,.fieldAddr 44 (.tmp 7) 1,0,"l14_step.go:11",#[],none⟩ ?_;refine kK 15 ⟨some 46,.load 3 (.tmp 45),3,"l14_step.go:11",#[⟨14,.data⟩],none⟩ ?_;refine kR 16 ⟨some 47,.call ⟨.value (.func 121),#[.tmp 37,.tmp 44,.tmp 46],#[3,57,3]⟩,65,"l14_step.go:11",#[⟨6,.data⟩,⟨13,.data⟩,⟨15,.data⟩],none⟩ (fun K hK => ?_);go_simp;refine (zbx y.B.id y.a y.n y.c y.B.ports xp _ (hy.ports.below (zc b3 vv))).mono ?_;rintro e wz ⟨rfl,hbz⟩;have vv:=zc vv hbz;generalize hSV:sayV y.B.id y.B.ports xp=SV at *;go_wp2_with fail
 refine hK.out _ _ (⟨by have:=zd (za kP vv); rw [HBA.out] at this; exact this,zK (za kL vv),(HBC.out _ (zc b3 vv)).1,(HBC.out _ (zc b3 vv)).2⟩) (fun hHeld => ?_);clear hK K
 try simp only [Act.put,lA,lB,lC]
 refine kR 17 ⟨none,.store 65 (.tmp 6) (.tmp 47),0,"l14_step.go:11",#[⟨16,.data⟩,⟨16,.chain⟩,⟨0,.phase⟩,⟨1,.phase⟩,⟨2,.phase⟩,⟨3,.phase⟩,⟨4,.phase⟩,⟨5,.phase⟩,⟨6,.phase⟩,⟨7,.phase⟩,⟨8,.phase⟩,⟨9,.phase⟩,⟨10,.phase⟩,⟨11,.phase⟩,⟨12,.phase⟩,⟨13,.phase⟩,⟨14,.phase⟩,⟨15,.phase⟩,⟨16,.phase⟩],none⟩ (fun K hK => ?_);obtain ⟨xx0,xx1,xx2,xx3,xx4⟩:=(zC (za kJ vv)).1;have ff:=zf (za kJ vv);have ff0:=ff 0;have ff1:=ff 1;have ff2:=ff 2;have ff3:=ff 3;have ff4:=ff 4;clear ff;go_simp;refine zfZ (K:=K _) (za kJ vv) _ _ _ _ _ (fun wq kQ hgq => ?_);have vq:=(zc b3 vv).grown hgq (zc b3 vv).size (by intro j e; cases e; have:=HZ1.out; omega);have kPq:=ze (za kP vv) hgq (by intro j e; cases e; have:=HZ1.out; omega);have kLq:=ze (za kL vv) hgq (by intro j e; cases e; have:=HZ1.out; have:=HZ2.out; omega);refine hK.out _ _ (⟨by have:=zd kPq; rw [HBA.out] at this; exact this,zK kLq,(HBC.out _ vq).1,(HBC.out _ vq).2⟩) (fun hHeld => ?_);clear hK K
 try simp only [Act.put,lA,lB,lC]
 refine wpAnyH_done (by kernel_rfl) ?_ _;have HB:=hide vq;have HQ:=hide kQ;obtain ⟨⟨r0,r1,r2,r3,r4⟩,-⟩:=zC kQ;clear hHeld kPq kLq vq kQ hgq;go_wp2;exact bodyPost_ret (v:=.agg #[.int .i64 SV.r,.int .i64 SV.c,.int .i64 SV.h,.int .i64 SV.b,.int .i64 SV.p]) (by simp [results,Tryz.results76,go_sem, *]) rfl ⟨by rw [hSV],HB.out⟩

theorem zdI (N:NV) (k i:Nat) (x:LK) (y:BV) (w:World) (h:zax w N) (hx:N.ls[k]?=some x) (hy0:N.bs[i]?=some y) (hi:x.b=(i:Int)) :
  Calls Tryz.prog 76 #[.agg #[.slice N.ba N.bn N.bc,.slice N.la N.ln N.lc,.slice N.sa N.sn N.sc],.int .i64 (k:Int),.bool true] w fun e w'=>e=.returned (.agg #[.int .i64 (sayV y.B.id y.B.ports x.q).r,.int .i64 (sayV y.B.id y.B.ports x.q).c,.int .i64 (sayV y.B.id y.B.ports x.q).h,.int .i64 (sayV y.B.id y.B.ports x.q).b,.int .i64 (sayV y.B.id y.B.ports x.q).p])∧Below w.heap.size w w':=by
 have hk:k < N.ln:=by have:=(List.getElem?_eq_some_iff.1 hx).1; have:=h.l.size; omega
 have hib:i < N.bn:=by have:=(List.getElem?_eq_some_iff.1 hy0).1; have:=h.b.size; omega
 generalize hw1:w.alloc (Obj.cells #[.slice N.ba N.bn N.bc,.slice N.la N.ln N.lc,.slice N.sa N.sn N.sc] 31)=w1;generalize hw2:w1.alloc (Obj.cells #[.int .i64 0,.int .i64 0,.int .i64 0,.int .i64 0,.int .i64 0] 65)=w2;have b01:=zb hw1;have b12:=zb hw2;have b02:=zc b01 b12;have kP:=za (zk hw1) b12;have kJ:=zk hw2;have HZ1:Hid (w1.heap.size=w.heap.size+1):=hide (by rw [← hw1]; simp);have HZ2:Hid (w2.heap.size=w.heap.size+2):=hide (by rw [← hw2,← hw1]; simp);obtain ⟨x',lb,lo,hx',hla,a0,a1,a2,a3⟩:=zaF (h.l.below b02) k hk;rw [hx] at hx';cases hx';obtain ⟨y',bb,off,hy',hba,-⟩:=br_at h.b i hib;rw [hy0] at hy';cases hy';have hy:=h.item y (List.mem_of_getElem? hy0);have hG:GRow brF w (some ⟨bb,off,none⟩) N.bn N.bc N.bs:=by rw [← hba]; exact h.b
 have HBC:Hid (∀W,Below w.heap.size w W→W.cell? ⟨bb,off+i*11,none⟩=some (.int .i64 y.B.id)∧W.cell? ⟨bb,off+i*11+2,none⟩=some (.slice y.a y.n y.c)):=hide (fun W hW=>by have:=zQ hG hW hy0; exact ⟨this.1,this.2.2.1⟩);have HBA:=hide hba;obtain ⟨x0,x1,x2⟩:=zd kP;rw [hla] at x1;have i1:(0:Int)≤(k:Int):=by omega
 have i2:(k:Int) < (N.ln:Int):=by omega
 have i3:(0:Int)≤(i:Int):=by omega
 have i4:(i:Int) < (N.bn:Int):=by omega
 clear hla hba hx hy0 hG;go_enter Tryz.func76,Tryz.ntmps76;obtain ⟨xa,xp,xb,xq⟩:=x;dsimp only at hi a0 a1 a2 a3 ⊢;subst hi;go_upto_region 3 with fail
 generalize hw3:w2.alloc (Obj.cells #[.int .i64 xa,.int .i64 xp,.int .i64 (i:Int),.int .i64 xq] 44)=w3;have b23:=zb hw3;have kL:=zk hw3;have kP:=za kP b23;have kJ:=za kJ b23;have b3:=zc b02 b23;have vv:Below w3.heap.size w3 w3.drew:=zp (Below.refl _ _);clear hw3 b23 x0 x1 x2 a0 a1 a2 a3;refine wp_region_held_drew (S:=(fun W=>(W.cell? ⟨w.heap.size,0,none⟩=some (.slice (some ⟨bb,off,none⟩) N.bn N.bc)∧W.cell? ⟨w.heap.size,1,none⟩=some (.slice N.la N.ln N.lc)∧W.cell? ⟨w.heap.size,2,none⟩=some (.slice N.sa N.sn N.sc))∧(W.cell? ⟨w2.heap.size,0,none⟩=some (.int .i64 xa)∧W.cell? ⟨w2.heap.size,1,none⟩=some (.int .i64 xp)∧W.cell? ⟨w2.heap.size,2,none⟩=some (.int .i64 (i:Int))∧W.cell? ⟨w2.heap.size,3,none⟩=some (.int .i64 xq))∧(W.cell? ⟨bb,off+i*11,none⟩=some (.int .i64 y.B.id)∧W.cell? ⟨bb,off+i*11+2,none⟩=some (.slice y.a y.n y.c)))) (by kernel_rfl) (⟨by have:=zd (za kP vv); rw [HBA.out] at this; exact this,zK (za kL vv),(HBC.out _ (zc b3 vv)).1,(HBC.out _ (zc b3 vv)).2⟩) (fun hHeld => ?_);refine kK 0 ⟨some 14,.fieldAddr 31 (.tmp 3) 0,0,"l14_step.go:9",#[],none⟩ ?_;refine kK 1 ⟨some 15,.load 28 (.tmp 14),28,"l14_step.go:9",#[⟨0,.data⟩],none⟩ ?_;refine kK 2 ⟨some 16,.fieldAddr 44 (.tmp 7) 2,0,"l14_step.go:9",#[],none⟩ ?_;refine kK 3 ⟨some 17,.load 3 (.tmp 16),3,"l14_step.go:9",#[⟨2,.data⟩],none⟩ ?_;refine kK 4 ⟨some 18,.indexAddr 28 (.tmp 15) (.tmp 17),0,"l14_step.go:9",#[⟨1,.data⟩,⟨3,.data⟩],none⟩ ?_;refine kK 5 ⟨some 19,.fieldAddr 63 (.tmp 18) 0,0,"l14_step.go:9",#[⟨4,.data⟩],none⟩ ?_;refine kK 6 ⟨some 20,.load 3 (.tmp 19),3,"l14_step.go:9",#[⟨5,.data⟩],none⟩ ?_;refine kK 7 ⟨some 21,.fieldAddr 31 (.tmp 3) 0,0,"l14_step.go:9",#[],none⟩ ?_;refine kK 8 ⟨some 22,.load 28 (.tmp 21),28,"l14_step.go:9",#[⟨7,.data⟩],none⟩ ?_;refine kK 9 ⟨some 23,.fieldAddr 44 (.tmp 7) 2,0,"l14_step.go:9",#[],none⟩ ?_;refine kK 10 ⟨some 24,.load 3 (.tmp 23),3,"l14_step.go:9",#[⟨9,.data⟩],none⟩ ?_;refine kK 11 ⟨some 25,.indexAddr 28 (.tmp 22) (.tmp 24),0,"l14_step.go:9",#[⟨8,.data⟩,⟨10,.data⟩],none⟩ ?_;refine kK 12 ⟨some 26,.fieldAddr 63 (.tmp 25) 2,0,"l14_step.go:9",#[⟨11,.data⟩],none⟩ ?_;refine kK 13 ⟨some 27,.load 57 (.tmp 26),57,"l14_step.go:9",#[⟨12,.data⟩],none⟩ ?_;refine kK 14 ⟨some 28,.fieldAddr 44 (.tmp 7) 3,0,"l14_step.go:9",#[],none⟩ ?_;refine kK 15 ⟨some 29,.load 3 (.tmp 28),3,"l14_step.go:9",#[⟨14,.data⟩],none⟩ ?_;refine kR 16 ⟨some 30,.call ⟨.value (.func 121),#[.tmp 20,.tmp 27,.tmp 29],#[3,57,3]⟩,65,"l14_step.go:9",#[⟨6,.data⟩,⟨13,.data⟩,⟨15,.data⟩],none⟩ (fun K hK => ?_);go_simp;refine (zbx y.B.id y.a y.n y.c y.B.ports xq _ (hy.ports.below (zc b3 vv))).mono ?_;rintro e wz ⟨rfl,hbz⟩;have vv:=zc vv hbz;generalize hSV:sayV y.B.id y.B.ports xq=SV at *;go_wp2_with fail
 refine hK.out _ _ (⟨by have:=zd (za kP vv); rw [HBA.out] at this; exact this,zK (za kL vv),(HBC.out _ (zc b3 vv)).1,(HBC.out _ (zc b3 vv)).2⟩) (fun hHeld => ?_);clear hK K
 try simp only [Act.put,lA,lB,lC]
 refine kR 17 ⟨none,.store 65 (.tmp 6) (.tmp 30),0,"l14_step.go:9",#[⟨16,.data⟩,⟨16,.chain⟩,⟨0,.phase⟩,⟨1,.phase⟩,⟨2,.phase⟩,⟨3,.phase⟩,⟨4,.phase⟩,⟨5,.phase⟩,⟨6,.phase⟩,⟨7,.phase⟩,⟨8,.phase⟩,⟨9,.phase⟩,⟨10,.phase⟩,⟨11,.phase⟩,⟨12,.phase⟩,⟨13,.phase⟩,⟨14,.phase⟩,⟨15,.phase⟩,⟨16,.phase⟩],none⟩ (fun K hK => ?_);obtain ⟨xx0,xx1,xx2,xx3,xx4⟩:=(zC (za kJ vv)).1;have ff:=zf (za kJ vv);have ff0:=ff 0;have ff1:=ff 1;have ff2:=ff 2;have ff3:=ff 3;have ff4:=ff 4;clear ff;go_simp;refine zfZ (K:=K _) (za kJ vv) _ _ _ _ _ (fun wq kQ hgq => ?_);have vq:=(zc b3 vv).grown hgq (zc b3 vv).size (by intro j e; cases e; have:=HZ1.out; omega);have kPq:=ze (za kP vv) hgq (by intro j e; cases e; have:=HZ1.out; omega);have kLq:=ze (za kL vv) hgq (by intro j e; cases e; have:=HZ1.out; have:=HZ2.out; omega);refine hK.out _ _ (⟨by have:=zd kPq; rw [HBA.out] at this; exact this,zK kLq,(HBC.out _ vq).1,(HBC.out _ vq).2⟩) (fun hHeld => ?_);clear hK K
 try simp only [Act.put,lA,lB,lC]
 refine wpAnyH_done (by kernel_rfl) ?_ _;have HB:=hide vq;have HQ:=hide kQ;obtain ⟨⟨r0,r1,r2,r3,r4⟩,-⟩:=zC kQ;clear hHeld kPq kLq vq kQ hgq;go_wp2;exact bodyPost_ret (v:=.agg #[.int .i64 SV.r,.int .i64 SV.c,.int .i64 SV.h,.int .i64 SV.b,.int .i64 SV.p]) (by simp [results,Tryz.results76,go_sem, *]) rfl ⟨by rw [hSV],HB.out⟩

theorem zeA (n:Int) (w:World) (h:n≤9223372036854775806) (h0 : -9223372036854775808≤n) :
  Calls Tryz.prog 115 #[.int .i64 n] w fun e w'=>e=.returned (.int .i64 (zad n))∧w'=w:=by
 by_cases h1:n≥1000000
 ·rw [show zad n=n from if_pos h1];have h1':(1000000:Int)≤n:=h1;go_enter Tryz.func115,Tryz.ntmps115;go_wp2;go_ret;exact ⟨rfl,rfl⟩
 ·rw [show zad n=n+1 from if_neg h1];have h1':¬(1000000:Int)≤n:=h1;go_enter Tryz.func115,Tryz.ntmps115;go_wp2;go_ret;exact ⟨rfl,rfl⟩

theorem zgA (bits:Int) (l:List FE) (k:Nat):(zaD bits l k).length≤l.length:=(zb8 bits l k).length_le

theorem zbT (base:Nat) (a:Option Addr) (n c:Nat) (fa:Option Addr) (fn fc:Nat) (ra:Option Addr) (rn rc:Nat) (oa:Option Addr) (on oc:Nat) (B:BR) (w:World) (h:BrOwn w base a n c fa fn fc ra rn rc oa on oc B) (hbase:base≤w.heap.size) (hn:n≤1048576) (hfn:fn≤16777216) (hv : -9223372036854775808≤B.vers∧B.vers≤9223372036854775806) :
  Calls Tryz.prog 95 #[.agg #[.int .i64 B.id,.string B.name,.slice a n c,.slice fa fn fc,.slice ra rn rc,.slice oa on oc,.int .i64 B.ticks,.int .i64 B.parse,.int .i64 B.word,.int .i64 B.drops,.int .i64 B.vers]] w fun e w'=>∃(fa2:Option Addr) (fn2 fc2:Nat),e=.returned (.agg #[.int .i64 B.id,.string B.name,.slice a n c,.slice fa2 fn2 fc2,.slice ra rn rc,.slice oa on oc,.int .i64 B.ticks,.int .i64 B.parse,.int .i64 B.word,.int .i64 B.drops,.int .i64 (zad B.vers)])∧BrOwn w' base a n c fa2 fn2 fc2 ra rn rc oa on oc (turned B)∧Below w.heap.size w w':=by
 have hpl:B.ports.length=n:=(zB (F:=ptF) h.ports).size;have hfl:B.f.length=fn:=(zB (F:=fentF) h.f).size;generalize hw1:w.alloc (Obj.cells #[.int .i64 B.id,.string B.name,.slice a n c,.slice fa fn fc,.slice ra rn rc,.slice oa on oc,.int .i64 B.ticks,.int .i64 B.parse,.int .i64 B.word,.int .i64 B.drops,.int .i64 B.vers] 63)=w1;generalize hw2:w1.alloc (Obj.cells #[.int .i64 0,.string ⟨#[]⟩,.slice none 0 0,.slice none 0 0,.slice none 0 0,.slice none 0 0,.int .i64 0,.int .i64 0,.int .i64 0,.int .i64 0,.int .i64 0] 63)=w2;have b01:=zb hw1;have b12:=zb hw2;have z1:w.heap.size < w1.heap.size:=by rw [← hw1]; simp
 have st2:BcSt w w2 w1.heap.size w.heap.size #[.int .i64 B.id,.string B.name,.slice a n c,.slice fa fn fc,.slice ra rn rc,.slice oa on oc,.int .i64 B.ticks,.int .i64 B.parse,.int .i64 B.word,.int .i64 B.drops,.int .i64 B.vers]:=⟨za (zk hw1) b12,by rw [← hw2]; exact zw _ _,zc b01 b12,Nat.le_refl _,Nat.le_of_lt z1,Nat.ne_of_gt z1⟩;have own2:=h.below (zc b01 b12);obtain ⟨x0,x1,x2,x3,x4,x5,x6,x7,x8,x9,x10⟩:=zr st2.box;have f10:=zf st2.box 10;obtain ⟨V,hV⟩:∃V,V=zad B.vers:=⟨_,rfl⟩;have HV:=hide hV;have HVR:=hide hv;clear hv;go_enter Tryz.func95,Tryz.ntmps95;go_wp2_with fail
 refine (zeA B.vers _ HVR.out.2 HVR.out.1).mono ?_;rintro e w3 ⟨rfl,e3⟩;obtain rfl:=e3.symm;rw [← hV];clear hV hw1 hw2;generalize hR:w1.heap.size=R at *;generalize hw4:w2.setCell ⟨w.heap.size,10,none⟩ (.int .i64 V)=w4;have st4:=st2.put 10 (.int .i64 V) (cs':=#[.int .i64 B.id,.string B.name,.slice a n c,.slice fa fn fc,.slice ra rn rc,.slice oa on oc,.int .i64 B.ticks,.int .i64 B.parse,.int .i64 B.word,.int .i64 B.drops,.int .i64 V]) rfl;have own4:=own2.boxed st2.box 10 (.int .i64 V);rw [hw4] at st4 own4;go_upto_region 2 with fail
 clear x0 x1 x2 x3 x4 x5 x6 x7 x8 x9 x10 f10 st2 own2 hw4;obtain ⟨x0,x1,x2,x3,x4,x5,x6,x7,x8,x9,x10⟩:=zr st4.box;go_wp2_with fail
 refine (zfB B.id a n c B.ports _ (zB (F:=ptF) own4.ports)).mono ?_;rintro e w5 ⟨rfl,hb5⟩;have st5:=st4.later hb5;have own5:=own4.below hb5;generalize hbits:zbd B.id B.ports=bits;have HBI:=hide hbits;clear x0 x1 x2 x3 x4 x5 x6 x7 x8 x9 x10 st4 own4 hb5 hbits;have HFL:=hide hfl;clear hfl;go_wp2_with fail
 go_loopw [4] (fun i wr=>∃(k:Nat) (fa2:Option Addr) (fn2 fc2:Nat),k≤n∧i=.int .i64 k∧fn2≤fn∧BcSt w wr R w.heap.size #[.int .i64 B.id,.string B.name,.slice a n c,.slice fa2 fn2 fc2,.slice ra rn rc,.slice oa on oc,.int .i64 B.ticks,.int .i64 B.parse,.int .i64 B.word,.int .i64 B.drops,.int .i64 V]∧BrOwn wr base a n c fa2 fn2 fc2 ra rn rc oa on oc { B with f:=zaD bits B.f k }) (fun i _=>n - (intOf i).toNat)
 case atStart=>exact ⟨0,fa,fn,fc,Nat.zero_le _,rfl,Nat.le_refl _,st5,own5⟩
 case round =>
  obtain ⟨k,fa2,fn2,fc2,hk,rfl,hf2,st,own⟩:=hrel;clear st5 own5;obtain ⟨x0,x1,x2,x3,x4,x5,x6,x7,x8,x9,x10⟩:=zr st.box;by_cases hlt:k < n
  ·have i1:(0:Int)≤(k:Int):=by omega
   have i2:(k:Int) < (n:Int):=by omega
   (go_wp2_with fail);refine (zgY bits (k:Int) _).mono ?_;rintro e w6 ⟨rfl,e6⟩;obtain rfl:=e6.symm;cases hb:bitOf bits (k:Int)
   ·have HF:Hid (zaD bits B.f (k+1)=zZ (zaD bits B.f k) (k:Int)):=hide (by rw [zaD,if_neg (by rw [hb]; decide)]);clear hb;(go_wp2_with fail);refine (zfA fa2 fn2 fc2 (zaD bits B.f k) (k:Int) _ (zB (F:=fentF) own.f) (by omega)).mono ?_;rintro e w7 ⟨fa7,fc7,rfl,o7,-,hb7⟩;have hlen:(zZ (zaD bits B.f k) (k:Int)).length≤fn:=by
     have h1:(zZ (zaD bits B.f k) (k:Int)).length≤(zaD bits B.f k).length:=List.length_filter_le _ _;have h2:=zgA bits B.f k;have h3:=HFL.out;omega
    have st7:=st.later hb7;have o7:=zF o7 (base':=base) (Nat.le_trans hbase st.below.size);have own7:=(own.below hb7).putF (Below.refl _ _) o7;clear x0 x1 x2 x3 x4 x5 x6 x7 x8 x9 x10 hb7 o7 st own;obtain ⟨x0,x1,x2,x3,x4,x5,x6,x7,x8,x9,x10⟩:=zr st7.box;have f3:=zf st7.box 3;rw [← HF.out] at own7 hlen ⊢;generalize hL:(zaD bits B.f (k+1)).length=L at *;have HST:=hide (st7.put 3 (.slice fa7 L fc7) (cs':=#[.int .i64 B.id,.string B.name,.slice a n c,.slice fa7 L fc7,.slice ra rn rc,.slice oa on oc,.int .i64 B.ticks,.int .i64 B.parse,.int .i64 B.word,.int .i64 B.drops,.int .i64 V]) rfl);have HOW:=hide (own7.boxed st7.box 3 (.slice fa7 L fc7));clear st7 own7;go_wp2
    go_roundw
    case rel=>exact ⟨k+1,fa7,L,fc7,by omega,by go_num,hlen,HST.out,HOW.out⟩
    case measure=>simp [intOf]; omega
   ·have HF:Hid (zaD bits B.f (k+1)=zaD bits B.f k):=hide (by rw [zaD,if_pos hb]);have HOW:Hid (BrOwn wr base a n c fa2 fn2 fc2 ra rn rc oa on oc { B with f:=zaD bits B.f (k+1) }):=hide (by rw [HF.out]; exact own);have HST:=hide st;clear hb st own x0 x1 x2 x3 x4 x5 x6 x7 x8 x9 x10;go_wp2
    go_roundw
    case rel=>exact ⟨k+1,fa2,fn2,fc2,by omega,by go_num,hf2,HST.out,HOW.out⟩
    case measure=>simp [intOf]; omega
  ·obtain rfl:n=k:=by omega
   obtain ⟨y0,y1,y2,y3,y4,y5,y6,y7,y8,y9,y10⟩:=zr st.res;have fr:=zf st.res;have f0:=fr 0;have f1:=fr 1;have f2:=fr 2;have f3:=fr 3;have f4:=fr 4;have f5:=fr 5;have f6:=fr 6;have f7:=fr 7;have f8:=fr 8;have f9:=fr 9;have f10:=fr 10;have ne1:¬R=w.heap.size:=st.ne;have ne2:¬w.heap.size=R:=fun e=>st.ne e.symm
   have HT:Hid (turned B={ B with vers:=V,f:=zaD bits B.f n }):=hide (by unfold turned; rw [HBI.out,hpl,HV.out]);obtain ⟨HO0,HB0⟩:=st.out own (.int .i64 B.id) (.string B.name) (.slice a n c) (.slice fa2 fn2 fc2) (.slice ra rn rc) (.slice oa on oc) (.int .i64 B.ticks) (.int .i64 B.parse) (.int .i64 B.word) (.int .i64 B.drops) (.int .i64 V);have HO:=hide HO0;have HB:=hide HB0;clear st own fr HO0 HB0;go_wp2;exact bodyPost_ret (v:=.agg #[.int .i64 B.id,.string B.name,.slice a n c,.slice fa2 fn2 fc2,.slice ra rn rc,.slice oa on oc,.int .i64 B.ticks,.int .i64 B.parse,.int .i64 B.word,.int .i64 B.drops,.int .i64 V]) (by simp [results,Tryz.results95,go_sem, *]) rfl ⟨fa2,fn2,fc2,(by rw [HV.out]),(by rw [HT.out]; exact ⟨HO.out.ports,HO.out.f,HO.out.v⟩),HB.out⟩

def zo (id ports:Int):BR:=if (decide (1≤id) && decide (id≤99)) && (decide (1≤ports) && decide (ports≤6)) then zac id ports.toNat else zgo

theorem zez (id ports:Int) (w:World):Calls Tryz.prog 51 #[.int .i64 id,.int .i64 ports] w fun e w'=>∃(a2:Option Addr) (n2 c2:Nat) (fa2:Option Addr) (fn2 fc2:Nat) (ra2:Option Addr) (rn2 rc2:Nat) (oa2:Option Addr) (on2 oc2:Nat),e=.returned (.agg #[.int .i64 (zo id ports).id,.string (zo id ports).name,.slice a2 n2 c2,.slice fa2 fn2 fc2,.slice ra2 rn2 rc2,.slice oa2 on2 oc2,.int .i64 (zo id ports).ticks,.int .i64 (zo id ports).parse,.int .i64 (zo id ports).word,.int .i64 (zo id ports).drops,.int .i64 (zo id ports).vers])∧BrOwn w' w.heap.size a2 n2 c2 fa2 fn2 fc2 ra2 rn2 rc2 oa2 on2 oc2 (zo id ports)∧Below w.heap.size w w':=by
 cases hid:(decide (1≤id) && decide (id≤99))
 ·have HE:Hid (zo id ports=zgo):=hide (by unfold zo; rw [hid]; rfl);have HID:=hide hid;clear hid;generalize hw1:w.alloc (Obj.cells #[.int .i64 0,.string ⟨#[]⟩,.slice none 0 0,.slice none 0 0,.slice none 0 0,.slice none 0 0,.int .i64 0,.int .i64 0,.int .i64 0,.int .i64 0,.int .i64 0] 63)=w1;have b1:=zb hw1;have kJ:=zk hw1;obtain ⟨u0,u1,u2,u3,u4,u5,u6,u7,u8,u9,u10⟩:=zr kJ;have fr:=zf kJ;have fr0:=fr 0;have fr1:=fr 1;have fr2:=fr 2;have fr3:=fr 3;have fr4:=fr 4;have fr5:=fr 5;have fr6:=fr 6;have fr7:=fr 7;have fr8:=fr 8;have fr9:=fr 9;have fr10:=fr 10;have HO:=hide ((zfg w1 w.heap.size).boxed11 kJ (.int .i64 0) (.string ⟨#[]⟩) (.slice none 0 0) (.slice none 0 0) (.slice none 0 0) (.slice none 0 0) (.int .i64 0) (.int .i64 0) (.int .i64 0) (.int .i64 0) (.int .i64 0));have HB:=hide (zaa b1 (Nat.le_refl _) (.int .i64 0) (.string ⟨#[]⟩) (.slice none 0 0) (.slice none 0 0) (.slice none 0 0) (.slice none 0 0) (.int .i64 0) (.int .i64 0) (.int .i64 0) (.int .i64 0) (.int .i64 0));clear fr b1 kJ;go_enter Tryz.func51,Tryz.ntmps51;(go_wp2_with fail);refine (zg id 1 99 _).mono ?_;rintro r wx ⟨rfl,ew⟩;obtain rfl:=ew.symm;rw [HID.out];go_wp2;exact bodyPost_ret (v:=.agg #[.int .i64 0,.string ⟨#[]⟩,.slice none 0 0,.slice none 0 0,.slice none 0 0,.slice none 0 0,.int .i64 0,.int .i64 0,.int .i64 0,.int .i64 0,.int .i64 0]) (by simp [results,Tryz.results51,go_sem, *]) rfl ⟨none,0,0,none,0,0,none,0,0,none,0,0,(by rw [HE.out]; rfl),(by rw [HE.out]; exact HO.out),HB.out⟩
 cases hm:(decide (1≤ports) && decide (ports≤6))
 ·have HE:Hid (zo id ports=zgo):=hide (by unfold zo; rw [hid,hm]; rfl);have HID:=hide hid;have HM:=hide hm;clear hid hm;generalize hw1:w.alloc (Obj.cells #[.int .i64 0,.string ⟨#[]⟩,.slice none 0 0,.slice none 0 0,.slice none 0 0,.slice none 0 0,.int .i64 0,.int .i64 0,.int .i64 0,.int .i64 0,.int .i64 0] 63)=w1;have b1:=zb hw1;have kJ:=zk hw1;obtain ⟨u0,u1,u2,u3,u4,u5,u6,u7,u8,u9,u10⟩:=zr kJ;have fr:=zf kJ;have fr0:=fr 0;have fr1:=fr 1;have fr2:=fr 2;have fr3:=fr 3;have fr4:=fr 4;have fr5:=fr 5;have fr6:=fr 6;have fr7:=fr 7;have fr8:=fr 8;have fr9:=fr 9;have fr10:=fr 10;have HO:=hide ((zfg w1 w.heap.size).boxed11 kJ (.int .i64 0) (.string ⟨#[]⟩) (.slice none 0 0) (.slice none 0 0) (.slice none 0 0) (.slice none 0 0) (.int .i64 0) (.int .i64 0) (.int .i64 0) (.int .i64 0) (.int .i64 0));have HB:=hide (zaa b1 (Nat.le_refl _) (.int .i64 0) (.string ⟨#[]⟩) (.slice none 0 0) (.slice none 0 0) (.slice none 0 0) (.slice none 0 0) (.int .i64 0) (.int .i64 0) (.int .i64 0) (.int .i64 0) (.int .i64 0));clear fr b1 kJ;go_enter Tryz.func51,Tryz.ntmps51;(go_wp2_with fail);refine (zg id 1 99 _).mono ?_;rintro r wx ⟨rfl,ew⟩;obtain rfl:=ew.symm;rw [HID.out];(go_wp2_with fail);refine (zg ports 1 6 _).mono ?_;rintro r wx ⟨rfl,ew⟩;obtain rfl:=ew.symm;rw [HM.out];go_wp2;exact bodyPost_ret (v:=.agg #[.int .i64 0,.string ⟨#[]⟩,.slice none 0 0,.slice none 0 0,.slice none 0 0,.slice none 0 0,.int .i64 0,.int .i64 0,.int .i64 0,.int .i64 0,.int .i64 0]) (by simp [results,Tryz.results51,go_sem, *]) rfl ⟨none,0,0,none,0,0,none,0,0,none,0,0,(by rw [HE.out]; rfl),(by rw [HE.out]; exact HO.out),HB.out⟩
 obtain ⟨m,rfl⟩:∃m:Nat,ports=(m:Int):=⟨ports.toNat,by simp at hm; omega⟩;have HE:Hid (zo id (m:Int)=zac id m):=hide (by unfold zo; rw [hid,hm,Int.toNat_natCast]; rfl);refine (zdx id m w hid hm).mono ?_;rintro e w' ⟨a,c,ra,rn,rc,oa,on,oc,rfl,ho,hb⟩;rw [HE.out];exact ⟨a,m,c,none,0,0,ra,rn,rc,oa,on,oc,rfl,ho,hb⟩

end Go.Proofs.YtkoekkjfcaiagaaGreat
