/-
  Packed: NetRows StepOwn StepSay StepHear.
-/
import Derived.Test.YtkoekkjfcaiagaaGreatPSKW
import Derived.Test.YtkoekkjfcaiagaaGreatPSBrStepI
import Derived.Test.YtkoekkjfcaiagaaGreatPSBrStepS
import Derived.Test.YtkoekkjfcaiagaaGreatPSK01
import Derived.Test.YtkoekkjfcaiagaaGreatPSK16
import Derived.Test.YtkoekkjfcaiagaaGreatPSK18
import Derived.Test.YtkoekkjfcaiagaaGreatPSK19
import Derived.Deep.RegionHeld3
namespace Go.Proofs.YtkoekkjfcaiagaaGreat
set_option maxRecDepth 100000
set_option maxHeartbeats 16000000
open Go.RowKit

theorem BOs.boxed {w w':World} {base:Nat} {ao:Option Addr} {n cap:Nat} {l:List BV} (h:BOs w base ao n cap l) {X:Nat} {cs:Array Value} (hX:w.heap[X]?=some (.cells cs 31)) (hg:w.grownBy w' (some X)):BOs w' base ao n cap l :=
 ⟨zt h.row hg (zz h.row hX (by decide)),fun x hx=>(h.item x hx).other hX (by decide) (by decide) (by decide) (by decide) hg,h.apart⟩

theorem zaN {w:World} {base g n cap j:Nat} {pre post:List BV} {x:BV} (y:BV) (hj:pre.length=j) (h:w.ownsRow base 63 11 (.slice (some ⟨g,0,none⟩) n cap) n (brF.all (pre++x::post))) {K:World→Prop} (hK:∀wq,wq.ownsRow base 63 11 (.slice (some ⟨g,0,none⟩) n cap) n (brF.all (pre++y::post))→w.grownBy wq (some g)→K wq) :
  K (((((((((((w.setCell ⟨g,j*11,none⟩ (.int .i64 y.B.id)).setCell ⟨g,j*11+1,none⟩ (.string y.B.name)).setCell ⟨g,j*11+2,none⟩ (.slice y.a y.n y.c)).setCell ⟨g,j*11+3,none⟩ (.slice y.fa y.fn y.fc)).setCell ⟨g,j*11+4,none⟩ (.slice y.ra y.rn y.rc)).setCell ⟨g,j*11+5,none⟩ (.slice y.oa y.on y.oc)).setCell ⟨g,j*11+6,none⟩ (.int .i64 y.B.ticks)).setCell ⟨g,j*11+7,none⟩ (.int .i64 y.B.parse)).setCell ⟨g,j*11+8,none⟩ (.int .i64 y.B.word)).setCell ⟨g,j*11+9,none⟩ (.int .i64 y.B.drops)).setCell ⟨g,j*11+10,none⟩ (.int .i64 y.B.vers)):=by
 subst hj;exact hK _ (zhF h) zgv

theorem zhH (ao:Option Addr) (n cap:Nat) (l:List LK) (w:World) (h:GRow linkF w ao n cap l) (hn:n≤16777216) :
  Calls Tryz.prog 43 #[.slice ao n cap] w fun r w'=>∃ao' cap',r=.returned (.slice ao' n cap')∧w'.ownsRow w.heap.size 44 4 (.slice ao' n cap') n (linkF.all l)∧Below w.heap.size w w':=by
 cases ao with
 | none =>
  have hc0:=h.nil rfl;have hn0:n=0:=by have:=h.le; omega
  subst hc0 hn0;have hl:l=[]:=List.eq_nil_of_length_eq_zero h.size;subst hl;have heq:∀W,(binOp .eql 25 (.slice none 0 0) (.slice none 0 0)).run Tryz.prog W=.ok (.bool true) W:=fun _=>by kernel_rfl
  go_enter Tryz.func43,Tryz.ntmps43;go_wp2;go_ret;exact ⟨none,0,rfl,World.ownsRow_nil _ _ _ _,Below.refl _ _⟩
 | some a =>
  have heq:∀W,(binOp .eql 25 (.slice (some a) n cap) (.slice none 0 0)).run Tryz.prog W=.ok (.bool false) W:=fun _=>by kernel_rfl
  go_enter Tryz.func43,Tryz.ntmps43;go_wp2_with (at_builtin; refine zM (F:=linkF) _ rfl _ _ 25 44 rfl w.heap.size Tryz.underlying25 zaU rfl (by decide) _ 0 [] rfl (zaK linkF w _ 44 w.heap.size (zw w _) (Nat.le_refl _)) (some a) n cap l rfl (h.below (zm _ _)) (by omega) (by simp) ?_)
  intro ao' cap' w' how hr hgr hb;have how:w'.ownsRow w.heap.size 44 4 (.slice ao' n cap') n (linkF.all l):=how;have HO:=hide how;have HB:=hide ((zm w _).trans hb);clear how hgr hb hr;go_wp2;go_ret;exact ⟨ao',cap',(by simp),HO.out,HB.out⟩

theorem zT {W:World} {X:Nat} {c0 c1 c2:Value} {T:TypeId} {K:World→Prop} (hk:W.heap[X]?=some (.cells #[c0,c1,c2] T)) (v0 v1 v2:Value) (h:∀wq,wq.heap[X]?=some (.cells #[v0,v1,v2] T)→W.grownBy wq (some X)→K wq):K (((W.setCell ⟨X,0,none⟩ v0).setCell ⟨X,1,none⟩ v1).setCell ⟨X,2,none⟩ v2):=by
 refine h _ ?_ (zL (zL (zn 0 _) (zn 1 _)) (zn 2 _));have h0:=zE (j:=0) hk v0;have h1:=zE (j:=1) h0 v1;have h2:=zE (j:=2) h1 v2
 simpa using h2

theorem NOwn.boxed {w w':World} {base:Nat} {M:NV} (h:NOwn w base M) {X:Nat} {cs:Array Value} (hX:w.heap[X]?=some (.cells cs 31)) (hg:w.grownBy w' (some X)):NOwn w' base M :=
 ⟨h.b.boxed hX hg,zt h.l hg (zz h.l hX (by decide)),zt h.s hg (zz h.s hX (by decide))⟩
theorem NOwn.rows {w w':World} {base:Nat} {M:NV} (h:NOwn w base M) (hg:w.grownBy w' (Value.slice M.ba M.bn M.bc).ownBlock) {ba:Option Addr} {bn bc:Nat} {bs:List BV} (hb:BOs w' base ba bn bc bs):NOwn w' base { M with ba:=ba,bn:=bn,bc:=bc,bs:=bs } :=
 ⟨hb,zA h.l h.b.row (by decide) hg,zA h.s h.b.row (by decide) hg⟩

structure NcSt (w wr:World) (N:NV) (X:Nat) (M:NV):Prop where
 src:wr.heap[w.heap.size]?=some (.cells #[.slice N.ba N.bn N.bc,.slice N.la N.ln N.lc,.slice N.sa N.sn N.sc] 31)
 res:wr.heap[w.heap.size+1]?=some (.cells #[.slice none 0 0,.slice none 0 0,.slice none 0 0] 31)
 box:wr.heap[X]?=some (.cells #[.slice M.ba M.bn M.bc,.slice M.la M.ln M.lc,.slice M.sa M.sn M.sc] 31)
 own:NOwn wr (w.heap.size+2) M
 below:Below w.heap.size w wr
 lt:w.heap.size+1 < X

theorem NcSt.size {w wr:World} {N:NV} {X:Nat} {M:NV} (h:NcSt w wr N X M):w.heap.size+2≤wr.heap.size:=zaO h.res

theorem NcSt.push {w wr:World} {N:NV} {X:Nat} {M:NV} (h:NcSt w wr N X M) {w1 w2:World} (hb:Below wr.heap.size wr w1) {y:BV} (hy:y.Own w1 wr.heap.size) (hg:w1.grownBy w2 (Value.slice M.ba M.bn M.bc).ownBlock) {ao':Option Addr} {cap':Nat} (hr:w2.ownsRow (w.heap.size+2) 63 11 (.slice ao' (M.bn+1) cap') (M.bn+1) (brF.all (M.bs++[y]))) :
  w2.heap[X]?=some (.cells #[.slice M.ba M.bn M.bc,.slice M.la M.ln M.lc,.slice M.sa M.sn M.sc] 31)∧Below w.heap.size w w2∧NcSt w (w2.setCell ⟨X,0,none⟩ (.slice ao' (M.bn+1) cap')) N X { M with ba:=ao',bn:=M.bn+1,bc:=cap',bs:=M.bs++[y] }:=by
 have hp:=h.own.b.push hb hy h.size hg hr;have ho:=(h.own.below hb).rows hg hp;have hrw:=(h.own.b.below hb).row;have k1:=ze (za h.box hb) hg (fun k hk=>zz hrw (za h.box hb) (by decide) k hk);have k2:=ze (za h.res hb) hg (fun k hk=>zz hrw (za h.res hb) (by decide) k hk);have k3:=ze (za h.src hb) hg (fun k hk=>zz hrw (za h.src hb) (by decide) k hk);have b1:=zc h.below hb;have b2:=b1.grown hg b1.size (by intro k hk; have:=(hrw.lt k hk).1; omega);have hgx:w2.grownBy (w2.setCell ⟨X,0,none⟩ (.slice ao' (M.bn+1) cap')) (some X):=zn 0 _;have hlt:=h.lt;refine ⟨k1,b2,ze k3 hgx (by intro k e; cases e; omega),ze k2 hgx (by intro k e; cases e; omega), ?_,ho.boxed k1 hgx,b2.grown hgx b2.size (by intro k e; cases e; omega),hlt⟩
 have:=zE (j:=0) k1 (.slice ao' (M.bn+1) cap')
 simpa using this

theorem zN {α:Type} (F:Flat α) {W:World} {base b:Nat} {T:TypeId} (h:W.heap[b]?=some (.cells #[] T)) (hb:base≤b):W.ownsRow base T F.k (.slice (some ⟨b,0,none⟩) 0 0) 0 (F.all []) :=
 ⟨by simp [Flat.all],.inr ⟨b,0,#[],rfl,hb,h,Nat.le_refl _,Nat.zero_le _,by simp,by simp [Flat.all]⟩⟩

structure NbSt (w:World) (base X:Nat) (M:NV):Prop where
 box:w.heap[X]?=some (.cells #[.slice M.ba M.bn M.bc,.slice M.la M.ln M.lc,.slice M.sa M.sn M.sc] 31)
 own:NOwn w base M
 le:base≤X

theorem NbSt.later {w w':World} {base X:Nat} {M:NV} (h:NbSt w base X M) (hb:Below w.heap.size w w'):NbSt w' base X M:=⟨za h.box hb,h.own.below hb,h.le⟩
theorem NbSt.size {w:World} {base X:Nat} {M:NV} (h:NbSt w base X M):base≤w.heap.size:=by have h1:=zaO h.box; have h2:=h.le; omega

theorem NbSt.put {w w1 w2:World} {base X g:Nat} {M:NV} {pre post:List BV} {x y:BV} (h:NbSt w base X M) (hba:M.ba=some ⟨g,0,none⟩) (hbs:M.bs=pre++x::post) (hb:Below w.heap.size w w1) (hy:y.Own w1 w.heap.size) (hg:w1.grownBy w2 (some g)) (hr:w2.ownsRow base 63 11 (.slice (some ⟨g,0,none⟩) M.bn M.bc) M.bn (brF.all (pre++y::post))) :
  NbSt w2 base X { M with bs:=pre++y::post }∧Below base w w2:=by
 have ob:BOs w base (some ⟨g,0,none⟩) M.bn M.bc (pre++x::post):=by have:=h.own.b; rw [hba,hbs] at this; exact this
 have hp:=ob.put hb hy h.size hg hr;have hrw:=(ob.below hb).row;have k1:=ze (za h.box hb) hg (fun k hk=>zz hrw (za h.box hb) (by decide) k hk);have ol:=zA (zh h.own.l hb) hrw (by decide) (v2:=.slice (some ⟨g,0,none⟩) M.bn M.bc) hg;have os:=zA (zh h.own.s hb) hrw (by decide) (v2:=.slice (some ⟨g,0,none⟩) M.bn M.bc) hg;have b1:Below base w w1:=hb.mono h.size;refine ⟨⟨k1,⟨by rw [hba]; exact hp,ol,os⟩,h.le⟩,b1.grown hg (Nat.le_trans h.size hb.size) (by intro k e; cases e; exact (ob.row.lt g rfl).1)⟩

def BV.Small20 (x:BV):Prop:=x.n≤1048576∧x.fn≤1048576∧x.rn≤1048576∧x.on≤1048576

theorem zbJ {α:Type} {l:List α} {k:Nat} {x:α} (hx:l[k]?=some x):∃pre post,l=pre++x::post∧pre.length=k∧∀y,l.set k y=pre++y::post:=by
 obtain ⟨hk,rfl⟩:=List.getElem?_eq_some_iff.1 hx;refine ⟨l.take k,l.drop (k+1), ?_, ?_, ?_⟩
 ·rw [← List.drop_eq_getElem_cons hk,List.take_append_drop]
 ·rw [List.length_take]; omega
 ·intro y; rw [List.set_eq_take_append_cons_drop,if_pos hk]

theorem zgC (M:NV) (base X k i:Nat) (x:LK) (y:BV) (v:VD) (w:World) (h:NbSt w base X M) (hx:M.ls[k]?=some x) (hy0:M.bs[i]?=some y) (hi:x.a=(i:Int)) (hsm:y.Small20) :
  Calls Tryz.prog 75 #[.pointer (some ⟨X,0,none⟩),.int .i64 (k:Int),.bool true,.agg #[.int .i64 v.r,.int .i64 v.c,.int .i64 v.h,.int .i64 v.b,.int .i64 v.p]] w fun e w'=>e=.returned (.tuple #[])∧∃y2:BV,y2.B=hearB y.B x.p v∧NbSt w' base X { M with bs:=M.bs.set i y2 }∧Below base w w':=by
 obtain ⟨ba,bn,bc,bs,la,ln,lc,ls,sa,sn,sc,ss⟩:=M;obtain ⟨xa,xp,xb,xq⟩:=x;dsimp only at hx hy0 hi ⊢;subst hi;have hk:k < ln:=by have h1:=(List.getElem?_eq_some_iff.1 hx).1; have h2:ls.length=ln:=h.own.row.l.size; omega
 have hib:i < bn:=by have h1:=(List.getElem?_eq_some_iff.1 hy0).1; have h2:bs.length=bn:=h.own.b.grow.size; omega
 obtain ⟨g,hg⟩:∃g,ba=some ⟨g,0,none⟩:=za0 h.own.b.row (show 0 < bn by omega);subst hg;obtain ⟨pre,post,hsp,hpl,hset⟩:=zbJ hy0;have HSET:=hide hset;have HPL:=hide hpl;subst hsp;have HG:Hid (g < w.heap.size):=hide (h.own.b.row.lt g rfl).2;have HAT:Hid ((pre++y::post)[i]?=some y):=hide hy0;have HSM:=hide hsm;clear hset hpl hy0 hsm;generalize hw1:w.alloc (Obj.cells #[.int .i64 v.r,.int .i64 v.c,.int .i64 v.h,.int .i64 v.b,.int .i64 v.p] 65)=w1;have b01:=zb hw1;have kE:=zk hw1;have HZ1:Hid (w1.heap.size=w.heap.size+1):=hide (by rw [← hw1]; simp);have st:=h.later b01;have HB0:=hide (b01.mono h.size);clear h b01;obtain ⟨x',lb,lo,hx',hla,a0,a1,a2,a3⟩:=zaF st.own.row.l k hk;dsimp only at hx' hla;rw [hx] at hx';cases hx';subst hla;obtain ⟨x0,x1,x2⟩:=zd st.box;have i1:(0:Int)≤(k:Int):=by omega
 have i2:(k:Int) < (ln:Int):=by omega
 have i3:(0:Int)≤(i:Int):=by omega
 have i4:(i:Int) < (bn:Int):=by omega
 clear hx;dsimp only at a0 a1 a2 a3 x0 x1 x2;go_enter Tryz.func75,Tryz.ntmps75;go_upto_region 3 with fail
 generalize hw2:w1.alloc (Obj.cells #[.int .i64 (i:Int),.int .i64 xp,.int .i64 xb,.int .i64 xq] 44)=w2;have b12:=zb hw2;have kL:=zk hw2;have kE:=za kE b12;have HB2:=hide (HB0.out.trans (b12.mono st.size));have st:=st.later b12;have vv:Below w2.heap.size w2 w2.drew:=zp (Below.refl _ _);have kX:=za st.box vv;have kL:=za kL vv;have kE:=za kE vv;have hyr:=(st.own.b.item y (by simp)).row;obtain ⟨⟨ca0,ca1,ca2,ca3,ca4,ca5,ca6,ca7,ca8,ca9,ca10⟩,-⟩:=zU (st.own.b.below vv).row HAT.out;clear hw1 hw2 b12 x0 x1 x2 a0 a1 a2 a3 HB0;refine wp_region_held_drew (S:=(fun W=>(W.cell? ⟨X,0,none⟩=some (.slice (some ⟨g,0,none⟩) bn bc)∧W.cell? ⟨X,1,none⟩=some (.slice (some ⟨lb,lo,none⟩) ln lc)∧W.cell? ⟨X,2,none⟩=some (.slice sa sn sc))∧(W.cell? ⟨w1.heap.size,0,none⟩=some (.int .i64 (i:Int))∧W.cell? ⟨w1.heap.size,1,none⟩=some (.int .i64 xp)∧W.cell? ⟨w1.heap.size,2,none⟩=some (.int .i64 xb)∧W.cell? ⟨w1.heap.size,3,none⟩=some (.int .i64 xq))∧(W.cell? ⟨w.heap.size,0,none⟩=some (.int .i64 v.r)∧W.cell? ⟨w.heap.size,1,none⟩=some (.int .i64 v.c)∧W.cell? ⟨w.heap.size,2,none⟩=some (.int .i64 v.h)∧W.cell? ⟨w.heap.size,3,none⟩=some (.int .i64 v.b)∧W.cell? ⟨w.heap.size,4,none⟩=some (.int .i64 v.p)))) (by kernel_rfl) (⟨zd kX,zK kL,(zC kE).1⟩) (fun hHeld => ?_);refine kK 0 ⟨some 17,.move (.tmp 0),109,"l14_step.go:18",#[],none⟩ ?_;refine kK 1 ⟨some 18,.nilCheck (.tmp 17),0,"l14_step.go:18",#[⟨0,.data⟩],none⟩ ?_;refine kK 2 ⟨some 19,.fieldAddr 31 (.tmp 18) 0,0,"l14_step.go:18",#[⟨1,.data⟩],none⟩ ?_;refine kK 3 ⟨some 20,.load 28 (.tmp 19),28,"l14_step.go:18",#[⟨2,.data⟩],none⟩ ?_;refine kK 4 ⟨some 21,.fieldAddr 44 (.tmp 8) 0,0,"l14_step.go:18",#[],none⟩ ?_;refine kK 5 ⟨some 22,.load 3 (.tmp 21),3,"l14_step.go:18",#[⟨4,.data⟩],none⟩ ?_;refine kK 6 ⟨some 23,.move (.tmp 0),109,"l14_step.go:18",#[],none⟩ ?_;refine kK 7 ⟨some 24,.nilCheck (.tmp 23),0,"l14_step.go:18",#[⟨6,.data⟩],none⟩ ?_;refine kK 8 ⟨some 25,.fieldAddr 31 (.tmp 24) 0,0,"l14_step.go:18",#[⟨7,.data⟩],none⟩ ?_;refine kK 9 ⟨some 26,.load 28 (.tmp 25),28,"l14_step.go:18",#[⟨8,.data⟩],none⟩ ?_;refine kK 10 ⟨some 27,.fieldAddr 44 (.tmp 8) 0,0,"l14_step.go:18",#[],none⟩ ?_;refine kK 11 ⟨some 28,.load 3 (.tmp 27),3,"l14_step.go:18",#[⟨10,.data⟩],none⟩ ?_;refine kK 12 ⟨some 29,.indexAddr 28 (.tmp 26) (.tmp 28),0,"l14_step.go:18",#[⟨9,.data⟩,⟨11,.data⟩],none⟩ ?_;refine kK 14 ⟨some 31,.fieldAddr 44 (.tmp 8) 1,0,"l14_step.go:18",#[],none⟩ ?_;refine kK 15 ⟨some 32,.load 3 (.tmp 31),3,"l14_step.go:18",#[⟨14,.data⟩],none⟩ ?_;refine kK 16 ⟨some 33,.load 65 (.tmp 7),65,"l14_step.go:18",#[],none⟩ ?_;refine kR 13 ⟨some 30,.load 63 (.tmp 29),63,"l14_step.go:18",#[⟨12,.data⟩],none⟩ (fun K hK => ?_);go_simp;refine hK.out _ _ (⟨zd kX,zK kL,(zC kE).1⟩) (fun hHeld => ?_);clear hK K
 try simp only [Act.put,lA,lB,lC]
 refine kR 17 ⟨some 34,.call ⟨.value (.func 120),#[.tmp 30,.tmp 32,.tmp 33],#[63,3,65]⟩,63,"l14_step.go:18",#[⟨13,.data⟩,⟨15,.data⟩,⟨16,.data⟩],none⟩ (fun K hK => ?_);go_simp;refine (zdy y.a y.n y.c y.fa y.fn y.fc y.ra y.rn y.rc y.oa y.on y.oc y.B xp v _ ((hyr).below vv) HSM.out.1 HSM.out.2.1 HSM.out.2.2.1 HSM.out.2.2.2).mono ?_;rintro e wz ⟨a2,n2,c2,fa2,fn2,fc2,ra2,rn2,rc2,oa2,on2,oc2,rfl,ow2,hbz⟩;have ow2:=BrOwn.lt ow2 (base':=w2.heap.size) vv.size;have vv:=zc vv hbz;have kX:=za st.box vv;have kL:=za kL hbz;have kE:=za kE hbz;have hrow:=(st.own.b.below vv).row;obtain ⟨⟨t0,t1,t2,t3,t4,t5,t6,t7,t8,t9,t10⟩,f0,f1,f2,f3,f4,f5,f6,f7,f8,f9,f10⟩:=zU hrow HAT.out;go_wp2_with fail
 refine hK.out _ _ (⟨zd kX,zK kL,(zC kE).1⟩) (fun hHeld => ?_);clear hK K
 try simp only [Act.put,lA,lB,lC]
 refine kK 18 ⟨some 35,.indexAddr 28 (.tmp 20) (.tmp 22),0,"l14_step.go:18",#[⟨3,.data⟩,⟨5,.data⟩,⟨0,.phase⟩,⟨1,.phase⟩,⟨2,.phase⟩,⟨3,.phase⟩,⟨4,.phase⟩,⟨5,.phase⟩,⟨6,.phase⟩,⟨7,.phase⟩,⟨8,.phase⟩,⟨9,.phase⟩,⟨10,.phase⟩,⟨11,.phase⟩,⟨12,.phase⟩,⟨13,.phase⟩,⟨14,.phase⟩,⟨15,.phase⟩,⟨16,.phase⟩,⟨17,.phase⟩],none⟩ ?_;refine kR 19 ⟨none,.store 63 (.tmp 35) (.tmp 34),0,"l14_step.go:18",#[⟨18,.data⟩,⟨17,.data⟩,⟨17,.chain⟩,⟨0,.phase⟩,⟨1,.phase⟩,⟨2,.phase⟩,⟨3,.phase⟩,⟨4,.phase⟩,⟨5,.phase⟩,⟨6,.phase⟩,⟨7,.phase⟩,⟨8,.phase⟩,⟨9,.phase⟩,⟨10,.phase⟩,⟨11,.phase⟩,⟨12,.phase⟩,⟨13,.phase⟩,⟨14,.phase⟩,⟨15,.phase⟩,⟨16,.phase⟩,⟨17,.phase⟩],none⟩ (fun K hK => ?_);go_simp;refine zaN (⟨a2,n2,c2,fa2,fn2,fc2,ra2,rn2,rc2,oa2,on2,oc2,(hearB y.B xp v)⟩:BV) HPL.out (K:=K _) hrow (fun wq hq hgq => ?_);have stN:=st.put (y:=(⟨a2,n2,c2,fa2,fn2,fc2,ra2,rn2,rc2,oa2,on2,oc2,(hearB y.B xp v)⟩:BV)) rfl rfl vv ow2 hgq hq;have kX:=stN.1.box;have kL:=ze kL hgq (by intro j e; cases e; have:=HG.out; have:=HZ1.out; omega);have kE:=ze kE hgq (by intro j e; cases e; have:=HG.out; omega);refine hK.out _ _ (⟨zd kX,zK kL,(zC kE).1⟩) (fun hHeld => ?_);clear hK K
 try simp only [Act.put,lA,lB,lC]
 refine wpAnyH_done (by kernel_rfl) ?_ _;have HST:=hide stN;clear hHeld kX kL kE hq hgq hrow ow2 vv stN;go_wp2;refine bodyPost_ret (v:=.tuple #[]) (by simp [results,Tryz.results75,go_sem, *]) rfl ?_;refine ⟨rfl,(⟨a2,n2,c2,fa2,fn2,fc2,ra2,rn2,rc2,oa2,on2,oc2,(hearB y.B xp v)⟩:BV),rfl, ?_,HB2.out.trans HST.out.2⟩;rw [HSET.out];exact HST.out.1

theorem zhO (M:NV) (base X k i:Nat) (x:LK) (y:BV) (v:VD) (w:World) (h:NbSt w base X M) (hx:M.ls[k]?=some x) (hy0:M.bs[i]?=some y) (hi:x.b=(i:Int)) (hsm:y.Small20) :
  Calls Tryz.prog 75 #[.pointer (some ⟨X,0,none⟩),.int .i64 (k:Int),.bool false,.agg #[.int .i64 v.r,.int .i64 v.c,.int .i64 v.h,.int .i64 v.b,.int .i64 v.p]] w fun e w'=>e=.returned (.tuple #[])∧∃y2:BV,y2.B=hearB y.B x.q v∧NbSt w' base X { M with bs:=M.bs.set i y2 }∧Below base w w':=by
 obtain ⟨ba,bn,bc,bs,la,ln,lc,ls,sa,sn,sc,ss⟩:=M;obtain ⟨xa,xp,xb,xq⟩:=x;dsimp only at hx hy0 hi ⊢;subst hi;have hk:k < ln:=by have h1:=(List.getElem?_eq_some_iff.1 hx).1; have h2:ls.length=ln:=h.own.row.l.size; omega
 have hib:i < bn:=by have h1:=(List.getElem?_eq_some_iff.1 hy0).1; have h2:bs.length=bn:=h.own.b.grow.size; omega
 obtain ⟨g,hg⟩:∃g,ba=some ⟨g,0,none⟩:=za0 h.own.b.row (show 0 < bn by omega);subst hg;obtain ⟨pre,post,hsp,hpl,hset⟩:=zbJ hy0;have HSET:=hide hset;have HPL:=hide hpl;subst hsp;have HG:Hid (g < w.heap.size):=hide (h.own.b.row.lt g rfl).2;have HAT:Hid ((pre++y::post)[i]?=some y):=hide hy0;have HSM:=hide hsm;clear hset hpl hy0 hsm;generalize hw1:w.alloc (Obj.cells #[.int .i64 v.r,.int .i64 v.c,.int .i64 v.h,.int .i64 v.b,.int .i64 v.p] 65)=w1;have b01:=zb hw1;have kE:=zk hw1;have HZ1:Hid (w1.heap.size=w.heap.size+1):=hide (by rw [← hw1]; simp);have st:=h.later b01;have HB0:=hide (b01.mono h.size);clear h b01;obtain ⟨x',lb,lo,hx',hla,a0,a1,a2,a3⟩:=zaF st.own.row.l k hk;dsimp only at hx' hla;rw [hx] at hx';cases hx';subst hla;obtain ⟨x0,x1,x2⟩:=zd st.box;have i1:(0:Int)≤(k:Int):=by omega
 have i2:(k:Int) < (ln:Int):=by omega
 have i3:(0:Int)≤(i:Int):=by omega
 have i4:(i:Int) < (bn:Int):=by omega
 clear hx;dsimp only at a0 a1 a2 a3 x0 x1 x2;go_enter Tryz.func75,Tryz.ntmps75;go_upto_region 4 with fail
 generalize hw2:w1.alloc (Obj.cells #[.int .i64 xa,.int .i64 xp,.int .i64 (i:Int),.int .i64 xq] 44)=w2;have b12:=zb hw2;have kL:=zk hw2;have kE:=za kE b12;have HB2:=hide (HB0.out.trans (b12.mono st.size));have st:=st.later b12;have vv:Below w2.heap.size w2 w2.drew:=zp (Below.refl _ _);have kX:=za st.box vv;have kL:=za kL vv;have kE:=za kE vv;have hyr:=(st.own.b.item y (by simp)).row;obtain ⟨⟨ca0,ca1,ca2,ca3,ca4,ca5,ca6,ca7,ca8,ca9,ca10⟩,-⟩:=zU (st.own.b.below vv).row HAT.out;clear hw1 hw2 b12 x0 x1 x2 a0 a1 a2 a3 HB0;refine wp_region_held_drew (S:=(fun W=>(W.cell? ⟨X,0,none⟩=some (.slice (some ⟨g,0,none⟩) bn bc)∧W.cell? ⟨X,1,none⟩=some (.slice (some ⟨lb,lo,none⟩) ln lc)∧W.cell? ⟨X,2,none⟩=some (.slice sa sn sc))∧(W.cell? ⟨w1.heap.size,0,none⟩=some (.int .i64 xa)∧W.cell? ⟨w1.heap.size,1,none⟩=some (.int .i64 xp)∧W.cell? ⟨w1.heap.size,2,none⟩=some (.int .i64 (i:Int))∧W.cell? ⟨w1.heap.size,3,none⟩=some (.int .i64 xq))∧(W.cell? ⟨w.heap.size,0,none⟩=some (.int .i64 v.r)∧W.cell? ⟨w.heap.size,1,none⟩=some (.int .i64 v.c)∧W.cell? ⟨w.heap.size,2,none⟩=some (.int .i64 v.h)∧W.cell? ⟨w.heap.size,3,none⟩=some (.int .i64 v.b)∧W.cell? ⟨w.heap.size,4,none⟩=some (.int .i64 v.p)))) (by kernel_rfl) (⟨zd kX,zK kL,(zC kE).1⟩) (fun hHeld => ?_);refine kK 0 ⟨some 36,.move (.tmp 0),109,"l14_step.go:21",#[],none⟩ ?_;refine kK 1 ⟨some 37,.nilCheck (.tmp 36),0,"l14_step.go:21",#[⟨0,.data⟩],none⟩ ?_;refine kK 2 ⟨some 38,.fieldAddr 31 (.tmp 37) 0,0,"l14_step.go:21",#[⟨1,.data⟩],none⟩ ?_;refine kK 3 ⟨some 39,.load 28 (.tmp 38),28,"l14_step.go:21",#[⟨2,.data⟩],none⟩ ?_;refine kK 4 ⟨some 40,.fieldAddr 44 (.tmp 8) 2,0,"l14_step.go:21",#[],none⟩ ?_;refine kK 5 ⟨some 41,.load 3 (.tmp 40),3,"l14_step.go:21",#[⟨4,.data⟩],none⟩ ?_;refine kK 6 ⟨some 42,.move (.tmp 0),109,"l14_step.go:21",#[],none⟩ ?_;refine kK 7 ⟨some 43,.nilCheck (.tmp 42),0,"l14_step.go:21",#[⟨6,.data⟩],none⟩ ?_;refine kK 8 ⟨some 44,.fieldAddr 31 (.tmp 43) 0,0,"l14_step.go:21",#[⟨7,.data⟩],none⟩ ?_;refine kK 9 ⟨some 45,.load 28 (.tmp 44),28,"l14_step.go:21",#[⟨8,.data⟩],none⟩ ?_;refine kK 10 ⟨some 46,.fieldAddr 44 (.tmp 8) 2,0,"l14_step.go:21",#[],none⟩ ?_;refine kK 11 ⟨some 47,.load 3 (.tmp 46),3,"l14_step.go:21",#[⟨10,.data⟩],none⟩ ?_;refine kK 12 ⟨some 48,.indexAddr 28 (.tmp 45) (.tmp 47),0,"l14_step.go:21",#[⟨9,.data⟩,⟨11,.data⟩],none⟩ ?_;refine kK 14 ⟨some 50,.fieldAddr 44 (.tmp 8) 3,0,"l14_step.go:21",#[],none⟩ ?_;refine kK 15 ⟨some 51,.load 3 (.tmp 50),3,"l14_step.go:21",#[⟨14,.data⟩],none⟩ ?_;refine kK 16 ⟨some 52,.load 65 (.tmp 7),65,"l14_step.go:21",#[],none⟩ ?_;refine kR 13 ⟨some 49,.load 63 (.tmp 48),63,"l14_step.go:21",#[⟨12,.data⟩],none⟩ (fun K hK => ?_);go_simp;refine hK.out _ _ (⟨zd kX,zK kL,(zC kE).1⟩) (fun hHeld => ?_);clear hK K
 try simp only [Act.put,lA,lB,lC]
 refine kR 17 ⟨some 53,.call ⟨.value (.func 120),#[.tmp 49,.tmp 51,.tmp 52],#[63,3,65]⟩,63,"l14_step.go:21",#[⟨13,.data⟩,⟨15,.data⟩,⟨16,.data⟩],none⟩ (fun K hK => ?_);go_simp;refine (zdy y.a y.n y.c y.fa y.fn y.fc y.ra y.rn y.rc y.oa y.on y.oc y.B xq v _ ((hyr).below vv) HSM.out.1 HSM.out.2.1 HSM.out.2.2.1 HSM.out.2.2.2).mono ?_;rintro e wz ⟨a2,n2,c2,fa2,fn2,fc2,ra2,rn2,rc2,oa2,on2,oc2,rfl,ow2,hbz⟩;have ow2:=BrOwn.lt ow2 (base':=w2.heap.size) vv.size;have vv:=zc vv hbz;have kX:=za st.box vv;have kL:=za kL hbz;have kE:=za kE hbz;have hrow:=(st.own.b.below vv).row;obtain ⟨⟨t0,t1,t2,t3,t4,t5,t6,t7,t8,t9,t10⟩,f0,f1,f2,f3,f4,f5,f6,f7,f8,f9,f10⟩:=zU hrow HAT.out;go_wp2_with fail
 refine hK.out _ _ (⟨zd kX,zK kL,(zC kE).1⟩) (fun hHeld => ?_);clear hK K
 try simp only [Act.put,lA,lB,lC]
 refine kK 18 ⟨some 54,.indexAddr 28 (.tmp 39) (.tmp 41),0,"l14_step.go:21",#[⟨3,.data⟩,⟨5,.data⟩,⟨0,.phase⟩,⟨1,.phase⟩,⟨2,.phase⟩,⟨3,.phase⟩,⟨4,.phase⟩,⟨5,.phase⟩,⟨6,.phase⟩,⟨7,.phase⟩,⟨8,.phase⟩,⟨9,.phase⟩,⟨10,.phase⟩,⟨11,.phase⟩,⟨12,.phase⟩,⟨13,.phase⟩,⟨14,.phase⟩,⟨15,.phase⟩,⟨16,.phase⟩,⟨17,.phase⟩],none⟩ ?_;refine kR 19 ⟨none,.store 63 (.tmp 54) (.tmp 53),0,"l14_step.go:21",#[⟨18,.data⟩,⟨17,.data⟩,⟨17,.chain⟩,⟨0,.phase⟩,⟨1,.phase⟩,⟨2,.phase⟩,⟨3,.phase⟩,⟨4,.phase⟩,⟨5,.phase⟩,⟨6,.phase⟩,⟨7,.phase⟩,⟨8,.phase⟩,⟨9,.phase⟩,⟨10,.phase⟩,⟨11,.phase⟩,⟨12,.phase⟩,⟨13,.phase⟩,⟨14,.phase⟩,⟨15,.phase⟩,⟨16,.phase⟩,⟨17,.phase⟩],none⟩ (fun K hK => ?_);go_simp;refine zaN (⟨a2,n2,c2,fa2,fn2,fc2,ra2,rn2,rc2,oa2,on2,oc2,(hearB y.B xq v)⟩:BV) HPL.out (K:=K _) hrow (fun wq hq hgq => ?_);have stN:=st.put (y:=(⟨a2,n2,c2,fa2,fn2,fc2,ra2,rn2,rc2,oa2,on2,oc2,(hearB y.B xq v)⟩:BV)) rfl rfl vv ow2 hgq hq;have kX:=stN.1.box;have kL:=ze kL hgq (by intro j e; cases e; have:=HG.out; have:=HZ1.out; omega);have kE:=ze kE hgq (by intro j e; cases e; have:=HG.out; omega);refine hK.out _ _ (⟨zd kX,zK kL,(zC kE).1⟩) (fun hHeld => ?_);clear hK K
 try simp only [Act.put,lA,lB,lC]
 refine wpAnyH_done (by kernel_rfl) ?_ _;have HST:=hide stN;clear hHeld kX kL kE hq hgq hrow ow2 vv stN;go_wp2;refine bodyPost_end (v:=.tuple #[]) (by simp [results,Tryz.results75,go_sem, *]) rfl ?_;refine ⟨rfl,(⟨a2,n2,c2,fa2,fn2,fc2,ra2,rn2,rc2,oa2,on2,oc2,(hearB y.B xq v)⟩:BV),rfl, ?_,HB2.out.trans HST.out.2⟩;rw [HSET.out];exact HST.out.1

end Go.Proofs.YtkoekkjfcaiagaaGreat
