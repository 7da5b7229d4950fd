/-
  Packed: NetRows StepOwn StepSay StepHear StepSays.
-/
import Derived.Test.YtkcoehmpnkdinaaGreatPNBrStepI
import Derived.Test.YtkcoehmpnkdinaaGreatPNBrStepS
namespace Go.Proofs.YtkcoehmpnkdinaaGreat
set_option maxRecDepth 100000
set_option maxHeartbeats 16000000
open Go.RowKit

theorem BOs.boxed {w w':World} {base:Nat} {ao:Option Addr} {n cap:Nat} {l:List BV} (h:BOs w base ao n cap l) {X:Nat} {cs:Array Value} (hX:w.heap[X]? = some (.cells cs 31)) (hg:w.grownBy w' (some X)):BOs w' base ao n cap l :=
 ⟨zB h.row hg (zN h.row hX (by decide)),fun x hx=>(h.item x hx).other hX (by decide) (by decide) (by decide) (by decide) hg,h.apart⟩

theorem zaU {w:World} {base g n cap j:Nat} {pre post:List BV} {x:BV} (y:BV) (hj:pre.length=j) (h:w.ownsRow base 61 11 (.slice (some ⟨g,0,none⟩) n cap) n (brF.all (pre++x::post))) {K:World→Prop} (hK:∀wq,wq.ownsRow base 61 11 (.slice (some ⟨g,0,none⟩) n cap) n (brF.all (pre++y::post))→w.grownBy wq (some g)→K wq) :
  K (((((((((((w.setCell ⟨g,j*11,none⟩ (.int .i64 y.B.id)).setCell ⟨g,j*11+1,none⟩ (.string y.B.name)).setCell ⟨g,j*11+2,none⟩ (.slice y.a y.n y.c)).setCell ⟨g,j*11+3,none⟩ (.slice y.fa y.fn y.fc)).setCell ⟨g,j*11+4,none⟩ (.slice y.ra y.rn y.rc)).setCell ⟨g,j*11+5,none⟩ (.slice y.oa y.on y.oc)).setCell ⟨g,j*11+6,none⟩ (.int .i64 y.B.ticks)).setCell ⟨g,j*11+7,none⟩ (.int .i64 y.B.parse)).setCell ⟨g,j*11+8,none⟩ (.int .i64 y.B.word)).setCell ⟨g,j*11+9,none⟩ (.int .i64 y.B.drops)).setCell ⟨g,j*11+10,none⟩ (.int .i64 y.B.vers)):=by
 subst hj;exact hK _ (zix h) zhg

theorem ziz (ao:Option Addr) (n cap:Nat) (l:List LK) (w:World) (h:GRow linkF w ao n cap l) (hn:n≤16777216) :
  Calls Tryz.prog 24 #[.slice ao n cap] w fun r w'=>∃ao' cap',r=.returned (.slice ao' n cap')∧w'.ownsRow w.heap.size 44 4 (.slice ao' n cap') n (linkF.all l)∧Below w.heap.size w w':=by
 cases ao with
 | none =>
  have hc0:=h.nil rfl;have hn0:n=0:=by have:=h.le; omega
  subst hc0 hn0;have hl:l=[]:=List.eq_nil_of_length_eq_zero h.size;subst hl;have heq:∀W,(binOp .eql 25 (.slice none 0 0) (.slice none 0 0)).run Tryz.prog W=.ok (.bool true) W:=fun _=>by kernel_rfl
  go_enter Tryz.func24,Tryz.ntmps24;go_wp2;go_ret;exact ⟨none,0,rfl,World.ownsRow_nil _ _ _ _,Below.refl _ _⟩
 | some a =>
  have heq:∀W,(binOp .eql 25 (.slice (some a) n cap) (.slice none 0 0)).run Tryz.prog W=.ok (.bool false) W:=fun _=>by kernel_rfl
  go_enter Tryz.func24,Tryz.ntmps24;go_wp2_with (at_builtin; refine zE (F:=linkF) _ rfl _ _ 25 44 rfl w.heap.size Tryz.underlying25 zc3 rfl (by decide) _ 0 [] rfl (zaE linkF w _ 44 w.heap.size (zt w _) (Nat.le_refl _)) (some a) n cap l rfl (h.below (zg _ _)) (by omega) (by simp) ?_)
  intro ao' cap' w' how hr hgr hb;have how:w'.ownsRow w.heap.size 44 4 (.slice ao' n cap') n (linkF.all l):=how;have HO:=hide how;have HB:=hide ((zg w _).trans hb);clear how hgr hb hr;go_wp2;go_ret;exact ⟨ao',cap',(by simp),HO.out,HB.out⟩

theorem zfm {P:Program} {ops:Array Oper} {o:Oper} {a:Act} {w:World} {K:Act→World→Prop} {Q:Exit→Act→World→Prop} {E:Prop} (hgd:o.guard=none) (l c:Operand) (t:TypeId) (hop:o.op=Op.makeSlice t l c)
  (base:Nat) (e:TypeId) (i:TypeInfo) (z:Value) (size:Nat) (h1:P.underlying t=some (.slice e)) (h2:P.info? e=some i) (h3:i.zero=some z) (h4:i.size=size)
  (kl kc:IntKind) (L C:Int) (n:Nat) (hl:a.eval l=.int kl L) (hc:a.eval c=.int kc C) (hL:L=(n:Int)) (hC:C=(n:Int)) (b2:i.bytes*n≤281474976710656) (b3:n≤maxLen) (b4:base≤w.heap.size)
  (hK:∀w',w'.ownsRow base e size (.slice (some ⟨w.heap.size,0,none⟩) n n) n (madeCells z.cells (n*size)).toList→w.grownBy w' none→K (a.put o.dst (.slice (some ⟨w.heap.size,0,none⟩) n n)) w') :
  if Region.wanted o (yielded ops a.tmps)=true then Oper.wp P o a w K Q else E:=by
 have hw:Region.wanted o (yielded ops a.tmps)=true:=by simp [Region.wanted,hgd]
 rw [if_pos hw];obtain ⟨w',hrun,r1,r2⟩:=run_make_full (P:=P) w base t e i z size h1 h2 h3 h4 kl kc n b2 b3 b4;subst hL;subst hC;unfold Oper.wp
 simp [execOp,hop,hl,hc,hrun,Result.andThen]
 exact hK w' r1 r2

theorem zaQ {W:World} {X:Nat} {c0 c1 c2:Value} {T:TypeId} {K:World→Prop} (hk:W.heap[X]? = some (.cells #[c0,c1,c2] T)) (v0 v1 v2:Value) (h:∀wq,wq.heap[X]? = some (.cells #[v0,v1,v2] T)→W.grownBy wq (some X)→K wq):K (((W.setCell ⟨X,0,none⟩ v0).setCell ⟨X,1,none⟩ v1).setCell ⟨X,2,none⟩ v2):=by
 refine h _ ?_ (zM (zM (zm 0 _) (zm 1 _)) (zm 2 _));have h0:=zu (j:=0) hk v0;have h1:=zu (j:=1) h0 v1;have h2:=zu (j:=2) h1 v2
 simpa using h2

theorem NOwn.boxed {w w':World} {base:Nat} {M:NV} (h:NOwn w base M) {X:Nat} {cs:Array Value} (hX:w.heap[X]? = some (.cells cs 31)) (hg:w.grownBy w' (some X)):NOwn w' base M :=
 ⟨h.b.boxed hX hg,zB h.l hg (zN h.l hX (by decide)),zB h.s hg (zN h.s hX (by decide))⟩
theorem NOwn.rows {w w':World} {base:Nat} {M:NV} (h:NOwn w base M) (hg:w.grownBy w' (Value.slice M.ba M.bn M.bc).ownBlock) {ba:Option Addr} {bn bc:Nat} {bs:List BV} (hb:BOs w' base ba bn bc bs):NOwn w' base { M with ba:=ba,bn:=bn,bc:=bc,bs:=bs } :=
 ⟨hb,zC h.l h.b.row (by decide) hg,zC h.s h.b.row (by decide) hg⟩

structure NcSt (w wr:World) (N:NV) (X:Nat) (M:NV):Prop where
 src:wr.heap[w.heap.size]? = some (.cells #[.slice N.ba N.bn N.bc,.slice N.la N.ln N.lc,.slice N.sa N.sn N.sc] 31)
 res:wr.heap[w.heap.size+1]? = some (.cells #[.slice none 0 0,.slice none 0 0,.slice none 0 0] 31)
 box:wr.heap[X]? = some (.cells #[.slice M.ba M.bn M.bc,.slice M.la M.ln M.lc,.slice M.sa M.sn M.sc] 31)
 own:NOwn wr (w.heap.size+2) M
 below:Below w.heap.size w wr
 lt:w.heap.size+1 < X

theorem NcSt.size {w wr:World} {N:NV} {X:Nat} {M:NV} (h:NcSt w wr N X M):w.heap.size+2≤wr.heap.size:=zcB h.res

theorem NcSt.push {w wr:World} {N:NV} {X:Nat} {M:NV} (h:NcSt w wr N X M) {w1 w2:World} (hb:Below wr.heap.size wr w1) {y:BV} (hy:y.Own w1 wr.heap.size) (hg:w1.grownBy w2 (Value.slice M.ba M.bn M.bc).ownBlock) {ao':Option Addr} {cap':Nat} (hr:w2.ownsRow (w.heap.size+2) 61 11 (.slice ao' (M.bn+1) cap') (M.bn+1) (brF.all (M.bs++[y]))) :
  w2.heap[X]? = some (.cells #[.slice M.ba M.bn M.bc,.slice M.la M.ln M.lc,.slice M.sa M.sn M.sc] 31)∧Below w.heap.size w w2∧NcSt w (w2.setCell ⟨X,0,none⟩ (.slice ao' (M.bn+1) cap')) N X { M with ba:=ao',bn:=M.bn+1,bc:=cap',bs:=M.bs++[y] }:=by
 have hp:=h.own.b.push hb hy h.size hg hr;have ho:=(h.own.below hb).rows hg hp;have hrw:=(h.own.b.below hb).row;have k1:=ze (za h.box hb) hg (fun k hk=>zN hrw (za h.box hb) (by decide) k hk);have k2:=ze (za h.res hb) hg (fun k hk=>zN hrw (za h.res hb) (by decide) k hk);have k3:=ze (za h.src hb) hg (fun k hk=>zN hrw (za h.src hb) (by decide) k hk);have b1:=zc h.below hb;have b2:=b1.grown hg b1.size (by intro k hk; have:=(hrw.lt k hk).1; omega);have hgx:w2.grownBy (w2.setCell ⟨X,0,none⟩ (.slice ao' (M.bn+1) cap')) (some X):=zm 0 _;have hlt:=h.lt;refine ⟨k1,b2,ze k3 hgx (by intro k e; cases e; omega),ze k2 hgx (by intro k e; cases e; omega), ?_,ho.boxed k1 hgx,b2.grown hgx b2.size (by intro k e; cases e; omega),hlt⟩
 have:=zu (j:=0) k1 (.slice ao' (M.bn+1) cap')
 simpa using this

theorem zdW {α:Type} (F:Flat α) {W:World} {base b:Nat} {T:TypeId} (h:W.heap[b]? = some (.cells #[] T)) (hb:base≤b):W.ownsRow base T F.k (.slice (some ⟨b,0,none⟩) 0 0) 0 (F.all []) :=
 ⟨by simp [Flat.all],.inr ⟨b,0,#[],rfl,hb,h,Nat.le_refl _,Nat.zero_le _,by simp,by simp [Flat.all]⟩⟩

structure NbSt (w:World) (base X:Nat) (M:NV):Prop where
 box:w.heap[X]? = some (.cells #[.slice M.ba M.bn M.bc,.slice M.la M.ln M.lc,.slice M.sa M.sn M.sc] 31)
 own:NOwn w base M
 le:base≤X

theorem NbSt.later {w w':World} {base X:Nat} {M:NV} (h:NbSt w base X M) (hb:Below w.heap.size w w'):NbSt w' base X M:=⟨za h.box hb,h.own.below hb,h.le⟩
theorem NbSt.size {w:World} {base X:Nat} {M:NV} (h:NbSt w base X M):base≤w.heap.size:=by have h1:=zcB h.box; have h2:=h.le; omega

theorem NbSt.put {w w1 w2:World} {base X g:Nat} {M:NV} {pre post:List BV} {x y:BV} (h:NbSt w base X M) (hba:M.ba=some ⟨g,0,none⟩) (hbs:M.bs=pre++x::post) (hb:Below w.heap.size w w1) (hy:y.Own w1 w.heap.size) (hg:w1.grownBy w2 (some g)) (hr:w2.ownsRow base 61 11 (.slice (some ⟨g,0,none⟩) M.bn M.bc) M.bn (brF.all (pre++y::post))) :
  NbSt w2 base X { M with bs:=pre++y::post }∧Below base w w2:=by
 have ob:BOs w base (some ⟨g,0,none⟩) M.bn M.bc (pre++x::post):=by have:=h.own.b; rw [hba,hbs] at this; exact this
 have hp:=ob.put hb hy h.size hg hr;have hrw:=(ob.below hb).row;have k1:=ze (za h.box hb) hg (fun k hk=>zN hrw (za h.box hb) (by decide) k hk);have ol:=zC (zl h.own.l hb) hrw (by decide) (v2:=.slice (some ⟨g,0,none⟩) M.bn M.bc) hg;have os:=zC (zl h.own.s hb) hrw (by decide) (v2:=.slice (some ⟨g,0,none⟩) M.bn M.bc) hg;have b1:Below base w w1:=hb.mono h.size;refine ⟨⟨k1,⟨by rw [hba]; exact hp,ol,os⟩,h.le⟩,b1.grown hg (Nat.le_trans h.size hb.size) (by intro k e; cases e; exact (ob.row.lt g rfl).1)⟩

def BV.Small20 (x:BV):Prop:=x.n≤1048576∧x.fn≤1048576∧x.rn≤1048576∧x.on≤1048576

theorem zc7 {α:Type} {l:List α} {k:Nat} {x:α} (hx:l[k]? = some x):∃pre post,l=pre++x::post∧pre.length=k∧∀y,l.set k y=pre++y::post:=by
 obtain ⟨hk,rfl⟩:=List.getElem?_eq_some_iff.1 hx;refine ⟨l.take k,l.drop (k+1), ?_, ?_, ?_⟩
 ·rw [← List.drop_eq_getElem_cons hk,List.take_append_drop]
 ·rw [List.length_take]; omega
 ·intro y; rw [List.set_eq_take_append_cons_drop,if_pos hk]

theorem zhl (M:NV) (base X k i:Nat) (x:LK) (y:BV) (v:VD) (w:World) (h:NbSt w base X M) (hx:M.ls[k]? = some x) (hy0:M.bs[i]? = some y) (hi:x.a=(i:Int)) (hsm:y.Small20) :
  Calls Tryz.prog 143 #[.pointer (some ⟨X,0,none⟩),.int .i64 (k:Int),.bool true,.agg #[.int .i64 v.r,.int .i64 v.c,.int .i64 v.h,.int .i64 v.b,.int .i64 v.p]] w fun e w'=>e=.returned (.tuple #[])∧∃y2:BV,y2.B=hearB y.B x.p v∧NbSt w' base X { M with bs:=M.bs.set i y2 }∧Below base w w':=by
 obtain ⟨ba,bn,bc,bs,la,ln,lc,ls,sa,sn,sc,ss⟩:=M;obtain ⟨xa,xp,xb,xq⟩:=x;dsimp only at hx hy0 hi ⊢;subst hi;have hk:k < ln:=by have h1:=(List.getElem?_eq_some_iff.1 hx).1; have h2:ls.length=ln:=h.own.row.l.size; omega
 have hib:i < bn:=by have h1:=(List.getElem?_eq_some_iff.1 hy0).1; have h2:bs.length=bn:=h.own.b.grow.size; omega
 obtain ⟨g,hg⟩:∃g,ba=some ⟨g,0,none⟩:=zbO h.own.b.row (show 0 < bn by omega);subst hg;obtain ⟨pre,post,hsp,hpl,hset⟩:=zc7 hy0;have HSET:=hide hset;have HPL:=hide hpl;subst hsp;have HG:Hid (g < w.heap.size):=hide (h.own.b.row.lt g rfl).2;have HAT:Hid ((pre++y::post)[i]? = some y):=hide hy0;have HSM:=hide hsm;clear hset hpl hy0 hsm;generalize hw1:w.alloc (Obj.cells #[.int .i64 v.r,.int .i64 v.c,.int .i64 v.h,.int .i64 v.b,.int .i64 v.p] 72)=w1;have b01:=zb hw1;have kE:=zk hw1;have HZ1:Hid (w1.heap.size=w.heap.size+1):=hide (by rw [← hw1]; simp);have st:=h.later b01;have HB0:=hide (b01.mono h.size);clear h b01;obtain ⟨x',lb,lo,hx',hla,a0,a1,a2,a3⟩:=zaX st.own.row.l k hk;dsimp only at hx' hla;rw [hx] at hx';cases hx';subst hla;obtain ⟨x0,x1,x2⟩:=zd st.box;have i1:(0:Int)≤(k:Int):=by omega
 have i2:(k:Int) < (ln:Int):=by omega
 have i3:(0:Int)≤(i:Int):=by omega
 have i4:(i:Int) < (bn:Int):=by omega
 clear hx;dsimp only at a0 a1 a2 a3 x0 x1 x2;go_enter Tryz.func143,Tryz.ntmps143;go_upto_region 3 with fail
 generalize hw2:w1.alloc (Obj.cells #[.int .i64 (i:Int),.int .i64 xp,.int .i64 xb,.int .i64 xq] 44)=w2;have b12:=zb hw2;have kL:=zk hw2;have kE:=za kE b12;have HB2:=hide (HB0.out.trans (b12.mono st.size));have st:=st.later b12;have vv:Below w2.heap.size w2 w2.drew:=zr (Below.refl _ _);have kX:=za st.box vv;have kL:=za kL vv;have kE:=za kE vv;have hyr:=(st.own.b.item y (by simp)).row;obtain ⟨⟨ca0,ca1,ca2,ca3,ca4,ca5,ca6,ca7,ca8,ca9,ca10⟩,-⟩:=zaf (st.own.b.below vv).row HAT.out;clear hw1 hw2 b12 x0 x1 x2 a0 a1 a2 a3 HB0;refine wp_region_held_drew (S:=(fun W=>(zcc W X 0 (.slice (some ⟨g,0,none⟩) bn bc)∧zcc W X 1 (.slice (some ⟨lb,lo,none⟩) ln lc)∧zcc W X 2 (.slice sa sn sc))∧(zcc W w1.heap.size 0 (.int .i64 (i:Int))∧zcc W w1.heap.size 1 (.int .i64 xp)∧zcc W w1.heap.size 2 (.int .i64 xb)∧zcc W w1.heap.size 3 (.int .i64 xq))∧(zcc W w.heap.size 0 (.int .i64 v.r)∧zcc W w.heap.size 1 (.int .i64 v.c)∧zcc W w.heap.size 2 (.int .i64 v.h)∧zcc W w.heap.size 3 (.int .i64 v.b)∧zcc W w.heap.size 4 (.int .i64 v.p)))) (by kernel_rfl) (⟨zd kX,zO kL,(zx kE).1⟩) (fun hHeld => ?_);refine kK 0 ?_;refine kK 1 ?_;refine kK 2 ?_;refine kK 3 ?_;refine kK 4 ?_;refine kK 5 ?_;refine kK 6 ?_;refine kK 7 ?_;refine kK 8 ?_;refine kK 9 ?_;refine kK 10 ?_;refine kK 11 ?_;refine kK 12 ?_;refine kK 14 ?_;refine kK 15 ?_;refine kK 16 ?_;refine kR 13 fun K hK => ?_
 go_simp;refine kO hK (⟨zd kX,zO kL,(zx kE).1⟩) fun hHeld => ?_
 clear hK K;refine kR 17 fun K hK => ?_
 go_simp;refine (zdN y.a y.n y.c y.fa y.fn y.fc y.ra y.rn y.rc y.oa y.on y.oc y.B xp v _ ((hyr).below vv) HSM.out.1 HSM.out.2.1 HSM.out.2.2.1 HSM.out.2.2.2).mono ?_;rintro e wz ⟨a2,n2,c2,fa2,fn2,fc2,ra2,rn2,rc2,oa2,on2,oc2,rfl,ow2,hbz⟩;have ow2:=BrOwn.lt ow2 (base':=w2.heap.size) vv.size;have vv:=zc vv hbz;have kX:=za st.box vv;have kL:=za kL hbz;have kE:=za kE hbz;have hrow:=(st.own.b.below vv).row;obtain ⟨⟨t0,t1,t2,t3,t4,t5,t6,t7,t8,t9,t10⟩,f0,f1,f2,f3,f4,f5,f6,f7,f8,f9,f10⟩:=zaf hrow HAT.out;go_wp2_with fail
 refine kO hK (⟨zd kX,zO kL,(zx kE).1⟩) fun hHeld => ?_
 clear hK K;refine kK 18 ?_;refine kR 19 fun K hK => ?_
 go_simp;refine zaU (⟨a2,n2,c2,fa2,fn2,fc2,ra2,rn2,rc2,oa2,on2,oc2,(hearB y.B xp v)⟩:BV) HPL.out (K:=K _) hrow (fun wq hq hgq => ?_);have stN:=st.put (y:=(⟨a2,n2,c2,fa2,fn2,fc2,ra2,rn2,rc2,oa2,on2,oc2,(hearB y.B xp v)⟩:BV)) rfl rfl vv ow2 hgq hq;have kX:=stN.1.box;have kL:=ze kL hgq (by intro j e; cases e; have:=HG.out; have:=HZ1.out; omega);have kE:=ze kE hgq (by intro j e; cases e; have:=HG.out; omega);refine kO hK (⟨zd kX,zO kL,(zx kE).1⟩) fun hHeld => ?_
 clear hK K;refine wpAnyH_done (by kernel_rfl) ?_ _;have HST:=hide stN;clear hHeld kX kL kE hq hgq hrow ow2 vv stN;go_wp2;refine bodyPost_ret (v:=.tuple #[]) (by simp [results,Tryz.results143,go_sem, *]) rfl ?_;refine ⟨rfl,(⟨a2,n2,c2,fa2,fn2,fc2,ra2,rn2,rc2,oa2,on2,oc2,(hearB y.B xp v)⟩:BV),rfl, ?_,HB2.out.trans HST.out.2⟩;rw [HSET.out];exact HST.out.1

theorem ziH (M:NV) (base X k i:Nat) (x:LK) (y:BV) (v:VD) (w:World) (h:NbSt w base X M) (hx:M.ls[k]? = some x) (hy0:M.bs[i]? = some y) (hi:x.b=(i:Int)) (hsm:y.Small20) :
  Calls Tryz.prog 143 #[.pointer (some ⟨X,0,none⟩),.int .i64 (k:Int),.bool false,.agg #[.int .i64 v.r,.int .i64 v.c,.int .i64 v.h,.int .i64 v.b,.int .i64 v.p]] w fun e w'=>e=.returned (.tuple #[])∧∃y2:BV,y2.B=hearB y.B x.q v∧NbSt w' base X { M with bs:=M.bs.set i y2 }∧Below base w w':=by
 obtain ⟨ba,bn,bc,bs,la,ln,lc,ls,sa,sn,sc,ss⟩:=M;obtain ⟨xa,xp,xb,xq⟩:=x;dsimp only at hx hy0 hi ⊢;subst hi;have hk:k < ln:=by have h1:=(List.getElem?_eq_some_iff.1 hx).1; have h2:ls.length=ln:=h.own.row.l.size; omega
 have hib:i < bn:=by have h1:=(List.getElem?_eq_some_iff.1 hy0).1; have h2:bs.length=bn:=h.own.b.grow.size; omega
 obtain ⟨g,hg⟩:∃g,ba=some ⟨g,0,none⟩:=zbO h.own.b.row (show 0 < bn by omega);subst hg;obtain ⟨pre,post,hsp,hpl,hset⟩:=zc7 hy0;have HSET:=hide hset;have HPL:=hide hpl;subst hsp;have HG:Hid (g < w.heap.size):=hide (h.own.b.row.lt g rfl).2;have HAT:Hid ((pre++y::post)[i]? = some y):=hide hy0;have HSM:=hide hsm;clear hset hpl hy0 hsm;generalize hw1:w.alloc (Obj.cells #[.int .i64 v.r,.int .i64 v.c,.int .i64 v.h,.int .i64 v.b,.int .i64 v.p] 72)=w1;have b01:=zb hw1;have kE:=zk hw1;have HZ1:Hid (w1.heap.size=w.heap.size+1):=hide (by rw [← hw1]; simp);have st:=h.later b01;have HB0:=hide (b01.mono h.size);clear h b01;obtain ⟨x',lb,lo,hx',hla,a0,a1,a2,a3⟩:=zaX st.own.row.l k hk;dsimp only at hx' hla;rw [hx] at hx';cases hx';subst hla;obtain ⟨x0,x1,x2⟩:=zd st.box;have i1:(0:Int)≤(k:Int):=by omega
 have i2:(k:Int) < (ln:Int):=by omega
 have i3:(0:Int)≤(i:Int):=by omega
 have i4:(i:Int) < (bn:Int):=by omega
 clear hx;dsimp only at a0 a1 a2 a3 x0 x1 x2;go_enter Tryz.func143,Tryz.ntmps143;go_upto_region 4 with fail
 generalize hw2:w1.alloc (Obj.cells #[.int .i64 xa,.int .i64 xp,.int .i64 (i:Int),.int .i64 xq] 44)=w2;have b12:=zb hw2;have kL:=zk hw2;have kE:=za kE b12;have HB2:=hide (HB0.out.trans (b12.mono st.size));have st:=st.later b12;have vv:Below w2.heap.size w2 w2.drew:=zr (Below.refl _ _);have kX:=za st.box vv;have kL:=za kL vv;have kE:=za kE vv;have hyr:=(st.own.b.item y (by simp)).row;obtain ⟨⟨ca0,ca1,ca2,ca3,ca4,ca5,ca6,ca7,ca8,ca9,ca10⟩,-⟩:=zaf (st.own.b.below vv).row HAT.out;clear hw1 hw2 b12 x0 x1 x2 a0 a1 a2 a3 HB0;refine wp_region_held_drew (S:=(fun W=>(zcc W X 0 (.slice (some ⟨g,0,none⟩) bn bc)∧zcc W X 1 (.slice (some ⟨lb,lo,none⟩) ln lc)∧zcc W X 2 (.slice sa sn sc))∧(zcc W w1.heap.size 0 (.int .i64 xa)∧zcc W w1.heap.size 1 (.int .i64 xp)∧zcc W w1.heap.size 2 (.int .i64 (i:Int))∧zcc W w1.heap.size 3 (.int .i64 xq))∧(zcc W w.heap.size 0 (.int .i64 v.r)∧zcc W w.heap.size 1 (.int .i64 v.c)∧zcc W w.heap.size 2 (.int .i64 v.h)∧zcc W w.heap.size 3 (.int .i64 v.b)∧zcc W w.heap.size 4 (.int .i64 v.p)))) (by kernel_rfl) (⟨zd kX,zO kL,(zx kE).1⟩) (fun hHeld => ?_);refine kK 0 ?_;refine kK 1 ?_;refine kK 2 ?_;refine kK 3 ?_;refine kK 4 ?_;refine kK 5 ?_;refine kK 6 ?_;refine kK 7 ?_;refine kK 8 ?_;refine kK 9 ?_;refine kK 10 ?_;refine kK 11 ?_;refine kK 12 ?_;refine kK 14 ?_;refine kK 15 ?_;refine kK 16 ?_;refine kR 13 fun K hK => ?_
 go_simp;refine kO hK (⟨zd kX,zO kL,(zx kE).1⟩) fun hHeld => ?_
 clear hK K;refine kR 17 fun K hK => ?_
 go_simp;refine (zdN y.a y.n y.c y.fa y.fn y.fc y.ra y.rn y.rc y.oa y.on y.oc y.B xq v _ ((hyr).below vv) HSM.out.1 HSM.out.2.1 HSM.out.2.2.1 HSM.out.2.2.2).mono ?_;rintro e wz ⟨a2,n2,c2,fa2,fn2,fc2,ra2,rn2,rc2,oa2,on2,oc2,rfl,ow2,hbz⟩;have ow2:=BrOwn.lt ow2 (base':=w2.heap.size) vv.size;have vv:=zc vv hbz;have kX:=za st.box vv;have kL:=za kL hbz;have kE:=za kE hbz;have hrow:=(st.own.b.below vv).row;obtain ⟨⟨t0,t1,t2,t3,t4,t5,t6,t7,t8,t9,t10⟩,f0,f1,f2,f3,f4,f5,f6,f7,f8,f9,f10⟩:=zaf hrow HAT.out;go_wp2_with fail
 refine kO hK (⟨zd kX,zO kL,(zx kE).1⟩) fun hHeld => ?_
 clear hK K;refine kK 18 ?_;refine kR 19 fun K hK => ?_
 go_simp;refine zaU (⟨a2,n2,c2,fa2,fn2,fc2,ra2,rn2,rc2,oa2,on2,oc2,(hearB y.B xq v)⟩:BV) HPL.out (K:=K _) hrow (fun wq hq hgq => ?_);have stN:=st.put (y:=(⟨a2,n2,c2,fa2,fn2,fc2,ra2,rn2,rc2,oa2,on2,oc2,(hearB y.B xq v)⟩:BV)) rfl rfl vv ow2 hgq hq;have kX:=stN.1.box;have kL:=ze kL hgq (by intro j e; cases e; have:=HG.out; have:=HZ1.out; omega);have kE:=ze kE hgq (by intro j e; cases e; have:=HG.out; omega);refine kO hK (⟨zd kX,zO kL,(zx kE).1⟩) fun hHeld => ?_
 clear hK K;refine wpAnyH_done (by kernel_rfl) ?_ _;have HST:=hide stN;clear hHeld kX kL kE hq hgq hrow ow2 vv stN;go_wp2;refine bodyPost_end (v:=.tuple #[]) (by simp [results,Tryz.results143,go_sem, *]) rfl ?_;refine ⟨rfl,(⟨a2,n2,c2,fa2,fn2,fc2,ra2,rn2,rc2,oa2,on2,oc2,(hearB y.B xq v)⟩:BV),rfl, ?_,HB2.out.trans HST.out.2⟩;rw [HSET.out];exact HST.out.1

theorem BOs.typed {w w':World} {base:Nat} {ao:Option Addr} {n cap:Nat} {l:List BV} (h:BOs w base ao n cap l) {base2 n2:Nat} {v2:Value} {xs2:List Value} (h2:w.ownsRow base2 74 7 v2 n2 xs2) (hg:w.grownBy w' v2.ownBlock):BOs w' base ao n cap l :=
 ⟨zC h.row h2 (by decide) hg,fun x hx=>⟨zC (h.item x hx).ports h2 (by decide) hg,zC (h.item x hx).f h2 (by decide) hg,⟨zC (h.item x hx).v.rows h2 (by decide) hg,zC (h.item x hx).v.own h2 (by decide) hg,(h.item x hx).v.i64⟩⟩,h.apart⟩

theorem NbSt.pushS {w w1 w2:World} {base X:Nat} {M:NV} {s:SY} (h:NbSt w base X M) (hb:Below w.heap.size w w1) (hg:w1.grownBy w2 (Value.slice M.sa M.sn M.sc).ownBlock) {ao':Option Addr} {cap':Nat} (hr:w2.ownsRow base 74 7 (.slice ao' (M.sn+1) cap') (M.sn+1) (sayF.all (M.ss++[s]))) :
  w2.heap[X]? = some (.cells #[.slice M.ba M.bn M.bc,.slice M.la M.ln M.lc,.slice M.sa M.sn M.sc] 31)∧NbSt (w2.setCell ⟨X,2,none⟩ (.slice ao' (M.sn+1) cap')) base X { M with sa:=ao',sn:=M.sn+1,sc:=cap',ss:=M.ss++[s] }∧Below base w (w2.setCell ⟨X,2,none⟩ (.slice ao' (M.sn+1) cap')):=by
 have h1:=h.later hb;have hrw:=h1.own.s;have k1:=ze h1.box hg (fun k hk=>zN hrw h1.box (by decide) k hk);have ob:=h1.own.b.typed hrw hg;have ol:=zC h1.own.l hrw (by decide) hg;have hgx:w2.grownBy (w2.setCell ⟨X,2,none⟩ (.slice ao' (M.sn+1) cap')) (some X):=zm 2 _;have nb:=NOwn.boxed (M:={ M with sa:=ao',sn:=M.sn+1,sc:=cap',ss:=M.ss++[s] }) ⟨ob,ol,hr⟩ k1 hgx;have b1:Below base w w1:=hb.mono h.size;have b2:=b1.grown hg (Nat.le_trans h.size hb.size) (by intro k hk; exact (hrw.lt k hk).1);have hle:=h.le;refine ⟨k1,⟨?_,nb,h.le⟩,b2.grown hgx (by have:=zcB k1; omega) (by intro k e; cases e; omega)⟩
 have:=zu (j:=2) k1 (.slice ao' (M.sn+1) cap')
 simpa using this

def sayAt (bs:List BR) (b p:Int):VD:=match bs[b.toNat]? with
 | some B=>sayV B.id B.ports p
 | none=>⟨0,0,0,0,0⟩
def zbJ (bs:List BR) (ls:List LK) (b:Int) (ss:List SY) (k:Nat):List SY:=match ls[k]? with
 | some x=>if zaw bs ls (k:Int)=true∧ss.length < 40 then (if x.a=b then ss++[⟨(k:Int),false,sayAt bs x.a x.p⟩] else if x.b=b then ss++[⟨(k:Int),true,sayAt bs x.b x.q⟩] else ss) else ss
 | none=>ss
def sayTo (bs:List BR) (ls:List LK) (b:Int) (ss:List SY):Nat→List SY
 | 0=>ss
 | k+1=>zbJ bs ls b (sayTo bs ls b ss k) k

theorem zkJ {bs:List BR} {ls:List LK} {b:Int} {ss:List SY} {k:Nat} (h:zaw bs ls (k:Int)=false):zbJ bs ls b ss k=ss:=by unfold zbJ; split <;> simp [h]
theorem zkL {bs:List BR} {ls:List LK} {b:Int} {ss:List SY} {k:Nat} (h:¬ss.length < 40):zbJ bs ls b ss k=ss:=by unfold zbJ; split <;> simp [h]
theorem one_a {bs:List BR} {ls:List LK} {b:Int} {ss:List SY} {k:Nat} {x:LK} (hu:zaw bs ls (k:Int)=true) (h:ss.length < 40) (hx:ls[k]? = some x) (ha:x.a=b):zbJ bs ls b ss k=ss++[⟨(k:Int),false,sayAt bs x.a x.p⟩]:=by unfold zbJ; rw [hx]; simp [hu,h,ha]
theorem one_b {bs:List BR} {ls:List LK} {b:Int} {ss:List SY} {k:Nat} {x:LK} (hu:zaw bs ls (k:Int)=true) (h:ss.length < 40) (hx:ls[k]? = some x) (ha:x.a≠b) (hb:x.b=b):zbJ bs ls b ss k=ss++[⟨(k:Int),true,sayAt bs x.b x.q⟩]:=by unfold zbJ; rw [hx]; simp [hu,h,ha,hb]
theorem zkK {bs:List BR} {ls:List LK} {b:Int} {ss:List SY} {k:Nat} {x:LK} (hx:ls[k]? = some x) (ha:x.a≠b) (hb:x.b≠b):zbJ bs ls b ss k=ss:=by unfold zbJ; rw [hx]; simp [ha,hb]
theorem zln (bs:List BR) (ls:List LK) (b:Int) (ss:List SY) (k:Nat) (h:ss.length≤40):(zbJ bs ls b ss k).length≤40:=by
 unfold zbJ
 split
 ·split
  ·split
   ·simp; omega
   ·split
    ·simp; omega
    ·exact h
  ·exact h
 ·exact h
theorem zla (bs:List BR) (ls:List LK) (b:Int) (ss:List SY) (h:ss.length≤40):∀k,(sayTo bs ls b ss k).length≤40
 | 0=>h
 | k+1=>zln _ _ _ _ _ (zla bs ls b ss h k)

theorem zbD {bs:List BV} {b p:Int} {u:PT} (h:zak (bs.map BV.B) b p=some u):∃(i:Nat) (y:BV),b=(i:Int)∧bs[i]? = some y:=by
 unfold zak at h
 split at h
 ·rename_i hb
  cases hy:bs[b.toNat]? with
  | none=>rw [List.getElem?_map,hy] at h; cases h
  | some y=>exact ⟨b.toNat,y,by omega,hy⟩
 ·cases h
theorem zg7 {bs:List BV} {i:Nat} {y:BV} (h:bs[i]? = some y) (p:Int):sayAt (bs.map BV.B) (i:Int) p=sayV y.B.id y.B.ports p:=by
 unfold sayAt;rw [Int.toNat_natCast,List.getElem?_map,h]
 rfl

theorem zkR (M:NV) (base X:Nat) (b:Int) (w:World) (h:NbSt w base X M) (he:∀x∈M.ls,zce M.brs x) (hs:M.ss.length≤40) :
  Calls Tryz.prog 111 #[.pointer (some ⟨X,0,none⟩),.int .i64 b] w fun e w'=>e=.returned (.tuple #[])∧∃(sa:Option Addr) (sn sc:Nat),NbSt w' base X { M with sa:=sa,sn:=sn,sc:=sc,ss:=sayTo M.brs M.ls b M.ss M.ln }∧Below base w w':=by
 obtain ⟨ba,bn,bc,bs,la,ln,lc,ls,sa0,sn0,sc0,ss0⟩:=M;have he:∀x∈ls,zce (bs.map BV.B) x:=he;dsimp only at hs
 show Calls Tryz.prog 111 #[.pointer (some ⟨X,0,none⟩),.int .i64 b] w fun e w'=>e=.returned (.tuple #[])∧∃(sa:Option Addr) (sn sc:Nat),NbSt w' base X ⟨ba,bn,bc,bs,la,ln,lc,ls,sa,sn,sc,sayTo (bs.map BV.B) ls b ss0 ln⟩∧Below base w w'
 have hll:ls.length=ln:=h.own.row.l.size;have HE:=hide he;have HS0:=hide hs;have hle:=Nat.le_trans h.own.row.l.le h.own.row.l.top;unfold maxLen at hle;dsimp only at hle;clear he hs;go_enter Tryz.func111,Tryz.ntmps111;go_wp2_with fail
 go_loopw [4] (fun i wr=>∃(k:Nat) (sa:Option Addr) (sn sc:Nat),k≤ln∧i=.int .i64 k∧NbSt wr base X ⟨ba,bn,bc,bs,la,ln,lc,ls,sa,sn,sc,sayTo (bs.map BV.B) ls b ss0 k⟩∧Below base w wr) (fun i _=>ln - (intOf i).toNat)
 case atStart=>exact ⟨0,sa0,sn0,sc0,Nat.zero_le _,rfl,h,Below.refl _ _⟩
 case round =>
  clear h;obtain ⟨k,sa,sn,sc,hk,rfl,st,hB⟩:=hrel;obtain ⟨x0,x1,x2⟩:=zd st.box;dsimp only at x0 x1 x2;by_cases hlt:k < ln
  ·obtain ⟨x,lb,lo,hx,hla,-⟩:=zaX st.own.row.l k hlt;dsimp only at hx hla;subst hla;have hsl:(sayTo (bs.map BV.B) ls b ss0 k).length=sn:=st.own.row.s.size;have hsn:sn≤40:=by rw [← hsl]; exact zla _ _ _ _ HS0.out k
   have HX:=hide hx;have hnx:sayTo (bs.map BV.B) ls b ss0 (k+1)=zbJ (bs.map BV.B) ls b (sayTo (bs.map BV.B) ls b ss0 k) k:=rfl;generalize sayTo (bs.map BV.B) ls b ss0 k=ss at *;have i0:(k:Int) < (ln:Int):=by omega
   have i1:(0:Int)≤(k:Int):=by omega
   (go_wp2_with fail);refine (za8 ⟨ba,bn,bc,bs,some ⟨lb,lo,none⟩,ln,lc,ls,sa,sn,sc,ss⟩ (k:Int) _ st.own.row).mono ?_;rintro e wr ⟨rfl,b1⟩;have hB:=hB.trans (b1.mono st.size);have st:=st.later b1;clear b1 x0 x1 x2;generalize hU:zaw _ _ _=U;have hU:zaw (bs.map BV.B) ls (k:Int)=U:=hU;obtain ⟨x0,x1,x2⟩:=zd st.box;dsimp only at x0 x1 x2;cases U
   ·have HS:Hid (sayTo (bs.map BV.B) ls b ss0 (k+1)=ss):=hide (by rw [hnx,zkJ hU]);clear hU hnx;have HST:=hide st;have HBN:=hide hB;clear st hB;go_wp2
    go_roundw
    case rel=>exact ⟨k+1,sa,sn,sc,by omega,by go_num,by rw [HS.out]; exact HST.out,HBN.out⟩
    case measure=>simp [intOf]; omega
   ·by_cases h40:sn < 40
    ·have g1:¬(40:Int)≤(sn:Int):=by omega
     obtain ⟨x',lb',lo',hx',hla',a0,a1,a2,a3⟩:=zaX st.own.row.l k hlt;dsimp only at hx' hla';rw [hx] at hx';cases hx';cases hla';obtain ⟨hnab,u,v,hpa,hpb,-⟩:=HE.out x (List.mem_of_getElem? hx);by_cases hab:x.a=b
     ·obtain ⟨i,y,hi,hy⟩:=zbD hpa;have HS:Hid (sayTo (bs.map BV.B) ls b ss0 (k+1)=ss++[⟨(k:Int),false,sayV y.B.id y.B.ports x.p⟩]):=hide (by rw [hnx,one_a hU (by omega) hx hab,hi,zg7 hy]);have HI:=hide hi;have HYI:=hide hy;have hxb:(x.b == b)=false:=by rw [← hab]; simpa using Ne.symm hnab
      have e1:(x.a == b)=true:=by simpa using hab
      generalize hSV:sayV y.B.id y.B.ports x.p=SV at *;have HSV:Hid (sayV y.B.id y.B.ports x.p=SV):=hide hSV;clear hpa hpb hx hy hi hnx hab hnab hSV;(go_upto_region 5 with fail);have vv:Below wr.heap.size wr wr.drew:=zr (Below.refl _ _);obtain ⟨x0,x1,x2⟩:=zd (za st.box vv);clear a0 a1 a2 a3 hU;refine wp_region_held_drew (S:=(fun _=>True)) (by kernel_rfl) (trivial) (fun hHeld => ?_)
      repeat' first
      |
       with_reducible refine kLa ?_
       first
       |
        refine kLf 0 ?_;refine kK 0 ?_
       |
        refine kLf 1 ?_;refine kK 1 ?_
       |
        refine kLf 2 ?_;refine kK 2 ?_
       |
        refine kLf 3 ?_;refine kK 3 ?_
       |
        refine kLf 5 ?_;refine kK 5 ?_
       |
        refine kLf 6 ?_;refine kK 6 ?_
       |
        refine kLf 7 ?_;refine kK 7 ?_
       |
        refine kLf 9 ?_;refine kK 9 ?_
       |
        refine kLf 11 ?_;refine kK 11 ?_
       |
        refine kLf 14 ?_;refine kK 14 ?_
       |
        refine kLf 15 ?_;refine kK 15 ?_
       |
        refine kLp [4,8] ?_
       |
        refine kLp [8] ?_
       |
        refine kLp [10] ?_
       |
        refine kLp [12] ?_
       |
        refine kLp [13] ?_
       |
        refine kLp [16] ?_
       |
        refine kLp [4,10] ?_
       |
        refine kLp [4,12] ?_
       |
        refine kLp [4] ?_
       |
        refine wpAnyH_done (by kernel_rfl) ?_ _;have HST:=hide stN;have HBN:=hide (hB.trans hBN);obtain ⟨y0,y1,y2⟩:=zd stN.box;obtain ⟨x',lb',lo',hx',hla',a0,a1,a2,a3⟩:=zaX stN.own.row.l k hlt;dsimp only at hx' hla' y0 y1 y2;rw [HX.out] at hx';cases hx';cases hla';clear hHeld kX how hgr hbL x0 x1 x2 fz kY gn1 vv stN hBN;go_wp2
        go_roundw
        case rel=>exact ⟨k+1,aL,sn+1,cL,by omega,by go_num,by rw [HS.out]; exact HST.out,HBN.out⟩
        case measure=>simp [intOf]; omega
      |
       exact AllReadyH.nil
      |
       refine kLc 4 (fun K hK => ?_) ?_;go_simp;refine kO hK (trivial) fun hHeld => ?_
       clear hK K
      |
       refine kLc 8 (fun K hK => ?_) ?_;go_simp;refine kO hK (trivial) fun hHeld => ?_
       clear hK K
      |
       refine kLc 10 (fun K hK => ?_) ?_;go_simp;refine (zjW ⟨ba,bn,bc,bs,some ⟨lb,lo,none⟩,ln,lc,ls,sa,sn,sc,ss⟩ k i x y _ (st.own.below vv).row HX.out HYI.out HI.out).mono ?_;rintro e wz ⟨rfl,hbz⟩;have vv:=zc vv hbz;obtain ⟨x0,x1,x2⟩:=zd (za st.box vv);rw [HSV.out];(go_wp2_with fail);refine kO hK (trivial) fun hHeld => ?_
       clear hK K
      |
       refine kLc 12 (fun K hK => ?_) ?_;go_simp
       first
       | refine zaj (K:=K _) (fun wx kY hbx => ?_)
       | refine zab (K:=K _) (fun wx kY hbx => ?_)
       have vv:=zc vv hbx;obtain ⟨x0,x1,x2⟩:=zd (za st.box vv);clear hbx;refine kO hK (trivial) fun hHeld => ?_
       clear hK K
      |
       refine kLc 13 (fun K hK => ?_) ?_;have gn1:GRow sayF wx (some ⟨_,0,none⟩) 1 1 [(⟨(k:Int),false,SV⟩:SY)]:=zD (F:=sayF) (zd0 sayF (base:=0) (l:=[(⟨(k:Int),false,SV⟩:SY)]) kY rfl (Nat.zero_le _) (by simp));refine zI (F:=sayF) rfl _ _ 29 74 rfl base Tryz.underlying29 zd1 rfl (by decide) _ sn ss rfl (zl st.own.s vv) _ 1 1 _ rfl gn1 (by omega) (Nat.le_trans st.size vv.size) ?_;intro aL cL wL how _ hgr hbL;obtain ⟨kX,stN,hBN⟩:=st.pushS (s:=(⟨(k:Int),false,SV⟩:SY)) vv hgr how;obtain ⟨x0,x1,x2⟩:=zd kX;have fz:=zi kX 2;refine kO hK (trivial) fun hHeld => ?_
       clear hK K
      |
       refine kLc 16 (fun K hK => ?_) ?_;go_simp;refine kO hK (trivial) fun hHeld => ?_
       clear hK K
     ·have e1:(x.a == b)=false:=by simpa using hab
      by_cases hbb:x.b=b
      ·obtain ⟨i,y,hi,hy⟩:=zbD hpb;have HS:Hid (sayTo (bs.map BV.B) ls b ss0 (k+1)=ss++[⟨(k:Int),true,sayV y.B.id y.B.ports x.q⟩]):=hide (by rw [hnx,one_b hU (by omega) hx hab hbb,hi,zg7 hy]);have HI:=hide hi;have HYI:=hide hy;have e2:(x.b == b)=true:=by simpa using hbb
       generalize hSV:sayV y.B.id y.B.ports x.q=SV at *;have HSV:Hid (sayV y.B.id y.B.ports x.q=SV):=hide hSV;clear hpa hpb hx hy hi hnx hab hnab hSV hbb;(go_upto_region 7 with fail);have vv:Below wr.heap.size wr wr.drew:=zr (Below.refl _ _);obtain ⟨x0,x1,x2⟩:=zd (za st.box vv);clear a0 a1 a2 a3 hU;refine wp_region_held_drew (S:=(fun _=>True)) (by kernel_rfl) (trivial) (fun hHeld => ?_)
       repeat' first
       |
        with_reducible refine kLa ?_
        first
        |
         refine kLf 0 ?_;refine kK 0 ?_
        |
         refine kLf 1 ?_;refine kK 1 ?_
        |
         refine kLf 2 ?_;refine kK 2 ?_
        |
         refine kLf 3 ?_;refine kK 3 ?_
        |
         refine kLf 5 ?_;refine kK 5 ?_
        |
         refine kLf 6 ?_;refine kK 6 ?_
        |
         refine kLf 7 ?_;refine kK 7 ?_
        |
         refine kLf 9 ?_;refine kK 9 ?_
        |
         refine kLf 11 ?_;refine kK 11 ?_
        |
         refine kLf 14 ?_;refine kK 14 ?_
        |
         refine kLf 15 ?_;refine kK 15 ?_
        |
         refine kLp [4,8] ?_
        |
         refine kLp [8] ?_
        |
         refine kLp [10] ?_
        |
         refine kLp [12] ?_
        |
         refine kLp [13] ?_
        |
         refine kLp [16] ?_
        |
         refine kLp [4,10] ?_
        |
         refine kLp [4,12] ?_
        |
         refine kLp [4] ?_
        |
         refine wpAnyH_done (by kernel_rfl) ?_ _;have HST:=hide stN;have HBN:=hide (hB.trans hBN);clear hHeld kX how hgr hbL x0 x1 x2 fz kY gn1 vv stN hBN;go_wp2
         go_roundw
         case rel=>exact ⟨k+1,aL,sn+1,cL,by omega,by go_num,by rw [HS.out]; exact HST.out,HBN.out⟩
         case measure=>simp [intOf]; omega
       |
        exact AllReadyH.nil
       |
        refine kLc 4 (fun K hK => ?_) ?_;go_simp;refine kO hK (trivial) fun hHeld => ?_
        clear hK K
       |
        refine kLc 8 (fun K hK => ?_) ?_;go_simp;refine kO hK (trivial) fun hHeld => ?_
        clear hK K
       |
        refine kLc 10 (fun K hK => ?_) ?_;go_simp;refine (ziX ⟨ba,bn,bc,bs,some ⟨lb,lo,none⟩,ln,lc,ls,sa,sn,sc,ss⟩ k i x y _ (st.own.below vv).row HX.out HYI.out HI.out).mono ?_;rintro e wz ⟨rfl,hbz⟩;have vv:=zc vv hbz;obtain ⟨x0,x1,x2⟩:=zd (za st.box vv);rw [HSV.out];(go_wp2_with fail);refine kO hK (trivial) fun hHeld => ?_
        clear hK K
       |
        refine kLc 12 (fun K hK => ?_) ?_;go_simp
        first
        | refine zaj (K:=K _) (fun wx kY hbx => ?_)
        | refine zab (K:=K _) (fun wx kY hbx => ?_)
        have vv:=zc vv hbx;obtain ⟨x0,x1,x2⟩:=zd (za st.box vv);clear hbx;refine kO hK (trivial) fun hHeld => ?_
        clear hK K
       |
        refine kLc 13 (fun K hK => ?_) ?_;have gn1:GRow sayF wx (some ⟨_,0,none⟩) 1 1 [(⟨(k:Int),true,SV⟩:SY)]:=zD (F:=sayF) (zd0 sayF (base:=0) (l:=[(⟨(k:Int),true,SV⟩:SY)]) kY rfl (Nat.zero_le _) (by simp));refine zI (F:=sayF) rfl _ _ 29 74 rfl base Tryz.underlying29 zd1 rfl (by decide) _ sn ss rfl (zl st.own.s vv) _ 1 1 _ rfl gn1 (by omega) (Nat.le_trans st.size vv.size) ?_;intro aL cL wL how _ hgr hbL;obtain ⟨kX,stN,hBN⟩:=st.pushS (s:=(⟨(k:Int),true,SV⟩:SY)) vv hgr how;obtain ⟨x0,x1,x2⟩:=zd kX;have fz:=zi kX 2;refine kO hK (trivial) fun hHeld => ?_
        clear hK K
       |
        refine kLc 16 (fun K hK => ?_) ?_;go_simp;refine kO hK (trivial) fun hHeld => ?_
        clear hK K
      ·have e2:(x.b == b)=false:=by simpa using hbb
       have HS:Hid (sayTo (bs.map BV.B) ls b ss0 (k+1)=ss):=hide (by rw [hnx,zkK hx hab hbb]);clear hpa hpb hx hnx hab hnab hbb hU;have HST:=hide st;have HBN:=hide hB;clear st hB;go_wp2
       go_roundw
       case rel=>exact ⟨k+1,sa,sn,sc,by omega,by go_num,by rw [HS.out]; exact HST.out,HBN.out⟩
       case measure=>simp [intOf]; omega
    ·have g1:(40:Int)≤(sn:Int):=by omega
     have HS:Hid (sayTo (bs.map BV.B) ls b ss0 (k+1)=ss):=hide (by rw [hnx,zkL (by omega)]);clear hU hnx;have HST:=hide st;have HBN:=hide hB;clear st hB;go_wp2
     go_roundw
     case rel=>exact ⟨k+1,sa,sn,sc,by omega,by go_num,by rw [HS.out]; exact HST.out,HBN.out⟩
     case measure=>simp [intOf]; omega
  ·have hkn:k=ln:=by omega
   subst hkn;have HST:=hide st;have HB:=hide hB;clear st hB;go_wp2;refine bodyPost_end (v:=.tuple #[]) (by simp [results,Tryz.results111,go_sem, *]) rfl ?_;exact ⟨rfl,sa,sn,sc,HST.out,HB.out⟩

end Go.Proofs.YtkcoehmpnkdinaaGreat
