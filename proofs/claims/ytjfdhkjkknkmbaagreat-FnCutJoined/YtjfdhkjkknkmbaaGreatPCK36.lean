/-
  Packed: StepDelS StepDel StepLose.
-/
import Derived.Test.YtjfdhkjkknkmbaaGreatPCKW
import Derived.Test.YtjfdhkjkknkmbaaGreatPCBrStepI
import Derived.Test.YtjfdhkjkknkmbaaGreatPCK01
import Derived.Test.YtjfdhkjkknkmbaaGreatPCK20
import Derived.Test.YtjfdhkjkknkmbaaGreatPCK30
import Derived.Test.YtjfdhkjkknkmbaaGreatPCK35
import Derived.Laws.OwnMore
import Derived.Deep.CutRange
namespace Go.Proofs.YtjfdhkjkknkmbaaGreat
set_option maxRecDepth 100000
set_option maxHeartbeats 16000000
open Go.RowKit

theorem zdR {α:Type} {F:Flat α} {P:Program} {ops:Array Oper} {o:Oper} {a:Act} {w:World} {K:Act→World→Prop} {Q:Exit→Act→World→Prop} {E:Prop} (hgd:o.guard=none)
  (s x:Operand) (t T:TypeId) (ho:o.op=Op.call { callee:=Callee.builtin Builtin.append,args:=#[s,x],argTypes:=#[t,t] }) (base:Nat) {Z:Value} {by8:Nat}
  (ht:P.underlying t=some (TypeDesc.slice T)) (hinfo:(P.info? T).map (fun i=>(i.zero,i.size,i.bytes))=some (some Z,F.k,by8))
  (g n cap:Nat) (xs:List α) (hs:a.eval s=.slice (some ⟨g,0,none⟩) n cap) (hown:w.ownsRow base T F.k (.slice (some ⟨g,0,none⟩) n cap) n (F.all xs)) (ao:Option Addr) (m c:Nat) (zs:List α)
  (hx:a.eval x=.slice ao m c) (hrow:GRow F w ao m c zs) (hroom:n+m≤cap)
  (h:∀w',w'.ownsRow base T F.k (.slice (some ⟨g,0,none⟩) (n+m) cap) (n+m) (F.all (xs++zs))→w.grownBy w' (some g)→K (a.put o.dst (.slice (some ⟨g,0,none⟩) (n+m) cap)) w') :
  if Region.wanted o (yielded ops a.tmps)=true then Oper.wp P o a w K Q else E:=by
 have hw:Region.wanted o (yielded ops a.tmps)=true:=by simp [Region.wanted,hgd]
 rw [if_pos hw];obtain ⟨i0,hi,hz0,hz1,hz2⟩:=zcY hinfo;rcases ao with _ | ad
 ·have hc0:=hrow.nil rfl;have hm0:m=0:=by have:=hrow.le; omega
  subst hc0 hm0;have hz:zs=[]:=List.eq_nil_of_length_eq_zero hrow.size;subst hz;have hrun:=run_append_owned_none (P:=P) w base t o.type T i0 F.k ht hi (.slice (some ⟨g,0,none⟩) n cap) n (F.all xs) hown;have hk:K (a.put o.dst (.slice (some ⟨g,0,none⟩) n cap)) w:=by simpa using h w (by simpa using hown) (World.grownBy.refl _ _)
  unfold Oper.wp
  simp [execOp,ho,resolve,invoke,builtin,hs,hx,hrun,Result.andThen]
  exact hk
 ·have hnews:∀(j:Nat) (u:Value),(F.all zs)[j]?=some u→w.cell? (ad.add j)=some u:=by
   intro j u hu;rcases hrow.cell with h0 | ⟨b,off,e,_⟩
   ·have hl:=(List.getElem?_eq_some_iff.1 hu).1;rw [F.all_length,hrow.size,h0,Nat.zero_mul] at hl;omega
   ·cases e;exact hrow.news j u hu
  obtain ⟨w',hrun,r1,r2⟩:=run_append_fits (P:=P) w base t o.type T i0 F.k ht hi hz1 g n cap (F.all xs) hown ad m c (F.all zs) (by rw [F.all_length,hrow.size]) hnews (F.all_oneCell zs) hroom;have hk:=h w' (by rw [F.all_append]; exact r1) r2;unfold Oper.wp
  simp [execOp,ho,resolve,invoke,builtin,hs,hx,hrun,Result.andThen]
  exact hk

theorem zeK {w:World} {base g i cap m:Nat} {L:List SY} (h:w.ownsRow base 61 7 (.slice (some ⟨g,0,none⟩) i cap) i (sayF.all L)) (hm:i+(m+1)≤cap) (ty:TypeId) :
  ∃w',(∀c,(Builtin.clear_ #[29] ty #[.slice (some ⟨g,i*7,none⟩) (m+1) c]).run Tryz.prog w=.ok (.tuple #[]) w')∧w'.ownsRow base 61 7 (.slice (some ⟨g,0,none⟩) i cap) i (sayF.all L)∧w.grownBy w' (some g):=by
 have hl:L.length=i:=(zC (F:=sayF) h).size;obtain ⟨hlen,⟨hv,h0⟩ | ⟨g',cap',cur,hv,hg,hh,h1,h2,h3,h4⟩⟩:=h
 ·cases hv
 ·cases hv;have hz:∀w,(zeroValue 61).run Tryz.prog w=.ok (.agg #[.int .i64 0,.bool false,.int .i64 0,.int .i64 0,.int .i64 0,.int .i64 0,.int .i64 0]) w:=fun w=>by kernel_rfl
  let Z:=(Builtin.zeroCells #[Value.int .i64 0,.bool false,.int .i64 0,.int .i64 0,.int .i64 0,.int .i64 0,.int .i64 0] (m+1)).toList
  have hZl:Z.length=(m+1)*7:=by simp [Z,size_zeroCells]
  have hZ1:∀v∈Z,v.oneCell'=true:=by
   intro v hv;simp only [Z,Builtin.zeroCells,Array.toList_map,List.mem_map] at hv;obtain ⟨j,-,rfl⟩:=hv;rcases (show j % 7=0∨j % 7=1∨j % 7=2∨j % 7=3∨j % 7=4∨j % 7=5∨j % 7=6 by omega) with e | e | e | e | e | e | e <;> simp [e] <;> rfl
  have hfit:i*7+0+Z.length≤cur.size:=by rw [hZl,h3]; omega
  have hst:=run_storeCells_at (P:=Tryz.prog) g (i*7) 61 Z 0 cur w hh hfit hZ1;refine ⟨w.setRow g (cur.toList.take (i*7+0)++Z++cur.toList.drop (i*7+0+Z.length)).toArray,fun c => ?_, ?_, ?_⟩
  ·have hst':=hst;simp only [Z] at hst'
   simp [Builtin.clear_,run_underlying Tryz.underlying29,hz,Value.cells,hst',Z]
  ·refine ⟨hlen,.inr ⟨g,cap,_,rfl,hg,setRow_heap w g cur _ 61 _ hh,h1,h2, ?_, ?_⟩⟩
   ·simp
    rw [hZl]
    have:cur.toList.length=cap*7:=by simpa using h3
    simp at this ⊢
    omega
   ·have hcs:cur.toList.length=cap*7:=by simpa using h3
    have e1:(cur.toList.take (i*7+0)).length=i*7:=by rw [List.length_take]; omega
    rw [List.append_assoc,List.take_append_of_le_length (by omega),List.take_of_length_le (by omega),← h4,Nat.add_zero]
  ·refine ⟨rfl,rfl,rfl, ?_, ?_⟩
   ·simp [World.setRow]
   ·intro k hk hkg;rw [setRow_other _ _ _ _ (fun e=>hkg (by rw [e]))]

theorem zhA {w:World} {base k:Nat} {e:TypeId} {a:Option Addr} {n cap:Nat} {xs:List Value} (h:w.ownsRow base e k (.slice a n cap) n xs) {i:Nat} (hi:i≤n):w.ownsRow base e k (.slice a i cap) i (xs.take (i*k)):=by
 have hik:i*k≤n*k:=Nat.mul_le_mul_right _ hi;obtain ⟨hl,⟨hv,h0⟩ | ⟨g,cap',cur,hv,hg,hh,h1,h2,h3,h4⟩⟩:=h
 ·cases hv
  have:i=0:=by omega
  subst this;exact ⟨by simp,.inl ⟨rfl,rfl⟩⟩
 ·cases hv;refine ⟨by rw [List.length_take,hl]; omega,.inr ⟨g,cap,cur,rfl,hg,hh,by omega,h2,h3, ?_⟩⟩;rw [← h4,List.take_take,Nat.min_eq_left hik]

theorem zit (l:List SY) (i:Nat):(sayF.all l).take (i*7)=sayF.all (l.take i):=by
 induction l generalizing i with
 | nil=>simp [Flat.all]
 | cons x l ih =>
  cases i with
  | zero=>simp [Flat.all]
  | succ i =>
   rw [sayF.all_cons,List.take_succ_cons,sayF.all_cons,← ih i];have h3:(sayF.cs x).length=7:=rfl;rw [List.take_append,h3,show (i+1)*7 - 7=i*7 by omega,List.take_of_length_le (by rw [h3]; omega)]

theorem zfB (base g n cap k:Nat) (l:List SY) (w:World) (how:w.ownsRow base 61 7 (.slice (some ⟨g,0,none⟩) n cap) n (sayF.all l)) (hk:k < n) (hn:n≤16777216) :
  Calls Tryz.prog 157 #[.slice (some ⟨g,0,none⟩) n cap,.int .i64 (k:Int),.int .i64 ((k:Int)+1)] w fun e w'=>e=.returned (.slice (some ⟨g,0,none⟩) (n - 1) cap)∧w'.ownsRow base 61 7 (.slice (some ⟨g,0,none⟩) (n - 1) cap) (n - 1) (sayF.all (l.take k++l.drop (k+1)))∧w.grownBy w' (some g):=by
 have hrow:=zC (F:=sayF) how;have hle:=hrow.le;have htop:=hrow.top;unfold maxLen at htop;have HTK:Hid (w.ownsRow base 61 7 (.slice (some ⟨g,0,none⟩) k cap) k (sayF.all (l.take k))):=hide (by
  have:=zhA how (Nat.le_of_lt hk)
  rw [zit] at this;exact this)
 have HDR:Hid (GRow sayF w (if cap=k+1 then some ⟨g,0,none⟩ else some ⟨g,(k+1)*7,none⟩) (n - (k+1)) (cap - (k+1)) (l.drop (k+1))):=hide (hrow.drop70 (show k+1≤n by omega));have i1:(0:Int)≤(k:Int):=by omega
 have i2:(k:Int)≤(k:Int)+1:=by omega
 have i3:(k:Int)+1≤(n:Int):=by omega
 have i4:(n:Int)≤(cap:Int):=by omega
 have i5:¬n=k:=by omega
 have i6:(k:Int)≤(cap:Int):=by omega
 have i7:(0:Int)≤(k:Int)+1:=by omega
 have i8:¬(k:Int)=(k:Int)+1:=by omega
 have i9:IntKind.i64.wrap ((k:Int)+1)=(k:Int)+1:=by rw [IntKind.wrap_i64]; omega
 have i10:((k:Int)+1).toNat=k+1:=by omega
 clear how hrow;go_enter Tryz.func157,Tryz.ntmps157;go_upto_region 5 with fail
 refine wp_region_held_drew (S:=(fun _=>True)) (by kernel_rfl) (trivial) (fun hHeld => ?_);refine kK 0 ⟨some 20,.move (.tmp 0),29,"slices.go:232",#[],none⟩ ?_;refine kK 1 ⟨some 21,.move (.tmp 1),3,"slices.go:232",#[],none⟩ ?_;refine kK 2 ⟨some 22,.slice 29 (.tmp 20) none (some (.tmp 21)) none,29,"slices.go:232",#[⟨0,.data⟩,⟨1,.data⟩],none⟩ ?_;refine kK 3 ⟨some 23,.move (.tmp 0),29,"slices.go:232",#[],none⟩ ?_;refine kK 4 ⟨some 24,.move (.tmp 2),3,"slices.go:232",#[],none⟩ ?_;refine kK 5 ⟨some 25,.slice 29 (.tmp 23) (some (.tmp 24)) none none,29,"slices.go:232",#[⟨3,.data⟩,⟨4,.data⟩],none⟩ ?_;refine kR 6 ⟨some 26,.call ⟨.builtin .append,#[.tmp 22,.tmp 25],#[29,29]⟩,29,"slices.go:232",#[⟨2,.data⟩,⟨5,.data⟩],none⟩ (fun K hK => ?_);refine zdR (F:=sayF) rfl _ _ 29 61 rfl base Tryz.underlying29 zU g k cap (l.take k) rfl (zi HTK.out (zq (Below.refl _ _))) _ (n - (k+1)) (cap - (k+1)) (l.drop (k+1)) rfl (HDR.out.below (zq (Below.refl _ _))) (by omega) ?_;intro wx how hgr;rw [show k+(n - (k+1))=n - 1 by omega] at how ⊢;refine hK.out _ _ (trivial) (fun hHeld => ?_);clear hK K
 try simp only [Act.put,lA,lB,lC]
 refine tK (v := ?_) 7 ⟨some 0,.assign (.tmp 26),29,"slices.go:232",#[⟨6,.data⟩,⟨6,.chain⟩,⟨0,.phase⟩,⟨1,.phase⟩,⟨2,.phase⟩,⟨3,.phase⟩,⟨4,.phase⟩,⟨5,.phase⟩,⟨6,.phase⟩],none⟩ ?_ ?_;rotate_left
 ·(intro _ h; (try dsimp only at h); go_simp; try with_reducible rfl)
 simp only [Act.put,List.setIfInBounds_toArray,List.set_cons_zero];refine wpAnyH_done (by kernel_rfl) ?_ _;have vv:=hgr;obtain ⟨wc,hrun,hO,hgr2⟩:=zeK (m:=0) how (by omega) 0;have HO:=hide hO;have HG:=hide (zgp (zq (Below.refl _ w)) (zL hgr hgr2));have c1:(0:Int)≤((n - 1:Nat):Int):=by omega
 have c2:((n - 1:Nat):Int)≤(n:Int):=by omega
 have c3:¬cap=n - 1:=by omega
 have c4:(n:Int)≤(cap:Int):=by omega
 have c5:n - (n - 1)=0+1:=by omega
 have c6:(n:Int).toNat - ((n - 1:Nat):Int).toNat=0+1:=by omega
 clear hHeld how hgr hgr2 hO vv HTK HDR;by_cases hc:cap=k+1
 ·subst hc;go_wp2;go_ret;exact ⟨rfl,HO.out,HG.out⟩
 ·go_wp2;go_ret;exact ⟨rfl,HO.out,HG.out⟩

abbrev q403:Oper:=⟨some 7,.move (.tmp 0),98,"l14_step.go:149",#[],none⟩
abbrev q404:Oper:=⟨some 8,.nilCheck (.tmp 7),0,"l14_step.go:149",#[⟨0,.data⟩],none⟩
abbrev q405:Oper:=⟨some 9,.fieldAddr 101 (.tmp 8) 0,0,"l14_step.go:149",#[⟨1,.data⟩],none⟩
abbrev q406:Oper:=⟨some 10,.load 31 (.tmp 9),31,"l14_step.go:149",#[⟨2,.data⟩],none⟩
abbrev q407:Oper:=⟨some 11,.fieldAddr 61 (.tmp 3) 0,0,"l14_step.go:149",#[],none⟩
abbrev q408:Oper:=⟨some 12,.load 3 (.tmp 11),3,"l14_step.go:149",#[⟨4,.data⟩],none⟩
abbrev q409:Oper:=⟨some 13,.call ⟨.value (.func 20),#[.tmp 10,.tmp 12],#[31,3]⟩,4,"l14_step.go:149",#[⟨3,.data⟩,⟨5,.data⟩],none⟩
abbrev q410:Oper:=⟨some 14,.unOp .not 4 (.tmp 13),4,"l14_step.go:149",#[⟨6,.data⟩],none⟩
abbrev q411:Oper:=⟨some 27,.call ⟨.value (.func 119),#[.tmp 24,.tmp 26],#[44,4]⟩,154,"l14_step.go:152",#[⟨8,.data⟩,⟨10,.data⟩],none⟩
abbrev q412:Oper:=⟨some 15,.move (.tmp 27),154,"l14_step.go:152",#[⟨11,.data⟩],none⟩
abbrev q413:Oper:=⟨some 28,.extract (.tmp 15) 0,87,"l14_step.go:152",#[⟨12,.data⟩],none⟩
abbrev q414:Oper:=⟨some 29,.extract (.tmp 15) 1,87,"l14_step.go:152",#[⟨12,.data⟩,{ on:=17,ground:=Ground.gcOnly Departure.lateStores }],none⟩
abbrev q415:Oper:=⟨some 4,.alloc 87,0,"l14_step.go:152",#[],none⟩
abbrev q416:Oper:=⟨some 5,.alloc 87,0,"l14_step.go:152",#[],none⟩
abbrev q417:Oper:=⟨none,.store 87 (.tmp 4) (.tmp 28),0,"l14_step.go:152",#[⟨15,.data⟩,⟨13,.data⟩,⟨11,.chain⟩,⟨0,.phase⟩,⟨1,.phase⟩,⟨2,.phase⟩,⟨3,.phase⟩,⟨4,.phase⟩,⟨5,.phase⟩,⟨6,.phase⟩,⟨7,.phase⟩,⟨8,.phase⟩,⟨9,.phase⟩,⟨10,.phase⟩,⟨11,.phase⟩,⟨12,.phase⟩,⟨13,.phase⟩,{ on:=14,ground:=Ground.textOnly Departure.lateStores },⟨15,.phase⟩,⟨16,.phase⟩],none⟩
abbrev q418:Oper:=⟨none,.store 87 (.tmp 5) (.tmp 29),0,"l14_step.go:152",#[⟨16,.data⟩,⟨14,.data⟩,⟨17,.chain⟩,⟨0,.phase⟩,⟨1,.phase⟩,⟨2,.phase⟩,⟨3,.phase⟩,⟨4,.phase⟩,⟨5,.phase⟩,⟨6,.phase⟩,⟨7,.phase⟩,⟨8,.phase⟩,⟨9,.phase⟩,⟨10,.phase⟩,⟨11,.phase⟩,⟨12,.phase⟩,⟨13,.phase⟩,⟨14,.phase⟩,⟨15,.phase⟩,⟨16,.phase⟩,⟨17,.phase⟩],none⟩

def BR.Rg (B:BR):Prop:=(∀x∈B.f,x.Rng)∧∀r∈B.v.rows,r.Rng

theorem zhy (M:NV) (base X k:Nat) (back:Bool) (v:VD) (w:World) (h:NiSt w base X M) (hu:zae M.brs M.ls (k:Int)=false) :
  Calls Tryz.prog 75 #[.pointer (some ⟨X,0,none⟩),.agg #[.int .i64 (k:Int),.bool back,.int .i64 v.r,.int .i64 v.c,.int .i64 v.h,.int .i64 v.b,.int .i64 v.p]] w fun e w'=>e=.returned (.tuple #[])∧NiSt w' base X M∧Below base w w':=by
 have HU:=hide hu;clear hu;generalize hw1:w.alloc (Obj.cells #[.int .i64 (k:Int),.bool back,.int .i64 v.r,.int .i64 v.c,.int .i64 v.h,.int .i64 v.b,.int .i64 v.p] 61)=w1;have b01:=zb hw1;have kS:=zk hw1;have HZ1:Hid (w1.heap.size=w.heap.size+1):=hide (by rw [← hw1]; simp);have HSZ:=hide h.size;have st:=h.later b01;have HB1:=hide (b01.mono h.size);clear h b01;go_enter Tryz.func75,Tryz.ntmps75;go_upto_region 1 with fail
 clear hw1;have vv:Below w1.heap.size w1 w1.drew:=zq (Below.refl _ _);refine wp_region_held_drew (S:=(fun W=>(W.cell? ⟨X,0,none⟩=some (.slice M.ba M.bn M.bc)∧W.cell? ⟨X,1,none⟩=some (.slice M.la M.ln M.lc)∧W.cell? ⟨X,2,none⟩=some (.slice M.sa M.sn M.sc))∧(W.cell? ⟨w.heap.size,0,none⟩=some (.int .i64 (k:Int))∧W.cell? ⟨w.heap.size,1,none⟩=some (.bool back)∧W.cell? ⟨w.heap.size,2,none⟩=some (.int .i64 v.r)∧W.cell? ⟨w.heap.size,3,none⟩=some (.int .i64 v.c)∧W.cell? ⟨w.heap.size,4,none⟩=some (.int .i64 v.h)∧W.cell? ⟨w.heap.size,5,none⟩=some (.int .i64 v.b)∧W.cell? ⟨w.heap.size,6,none⟩=some (.int .i64 v.p)))) (by kernel_rfl) (⟨zd (za st.box vv),zX (za kS vv)⟩) (fun hHeld => ?_);refine kK 0 q403 ?_;refine kK 1 q404 ?_;refine kK 2 q405 ?_;refine kK 3 q406 ?_;refine kK 4 q407 ?_;refine kK 5 q408 ?_;refine kR 6 q409 (fun K hK => ?_);go_simp;refine (zaP M (k:Int) _ (st.own.below vv).row).mono ?_;rintro e wz ⟨rfl,hbz⟩;rw [HU.out];have vv:=zc vv hbz;go_wp2_with fail
 refine hK.out _ _ (⟨zd (za st.box vv),zX (za kS vv)⟩) (fun hHeld => ?_);clear hK K
 try simp only [Act.put,lA,lB,lC]
 refine kK 7 q410 ?_;refine wpAnyH_done (by kernel_rfl) ?_ _;have HST:=hide (st.later vv);have HB:=hide (HB1.out.trans (vv.mono st.size));clear hHeld st vv kS;go_wp2;exact bodyPost_ret (v:=.tuple #[]) (by simp [results,Tryz.results75,go_sem, *]) rfl ⟨rfl,HST.out,HB.out⟩

theorem zd8 (M:NV) (base X k i:Nat) (back:Bool) (v:VD) (x:LK) (y:BV) (fb fp tp:Int) (w:World) (h:NiSt w base X M) (hu:zae M.brs M.ls (k:Int)=true) (hx:M.ls[k]?=some x) (hway:Way x back fb fp (i:Int) tp) (hy0:M.bs[i]?=some y) (hsm:y.Small20) (hrg:y.B.Rg) :
  Calls Tryz.prog 75 #[.pointer (some ⟨X,0,none⟩),.agg #[.int .i64 (k:Int),.bool back,.int .i64 v.r,.int .i64 v.c,.int .i64 v.h,.int .i64 v.b,.int .i64 v.p]] w fun e w'=>e=.returned (.tuple #[])∧∃y2:BV,y2.B=hearB y.B tp v∧NiSt w' base X { M with bs:=M.bs.set i y2 }∧Below base w w':=by
 obtain ⟨ba,bn,bc,bs,la,ln,lc,ls,sa,sn,sc,ss⟩:=M;obtain ⟨xa,xp,xb,xq⟩:=x;have HU:=hide hu;dsimp only at hx hy0 ⊢;have hk:k < ln:=by have h1:=(List.getElem?_eq_some_iff.1 hx).1; have h2:ls.length=ln:=h.own.row.l.size; omega
 have hib:i < bn:=by have h1:=(List.getElem?_eq_some_iff.1 hy0).1; have h2:bs.length=bn:=h.own.b.grow.size; omega
 have hle:bn≤9223372036854775807:=by have h1:=Nat.le_trans h.own.b.grow.le h.own.b.grow.top; unfold maxLen at h1; exact h1
 obtain ⟨g,hg⟩:∃g,ba=some ⟨g,0,none⟩:=za3 h.own.b.row (show 0 < bn by omega);subst hg;obtain ⟨x',lb,lo,hx',hla,-⟩:=zaF h.own.row.l k hk;dsimp only at hx' hla;subst hla;clear hx';obtain ⟨pre,post,hsp,hpl,hset⟩:=zbH hy0;have HSET:=hide hset;have HPL:=hide hpl;subst hsp;have HG:Hid (g < w.heap.size):=hide (h.own.b.row.lt g rfl).2;have HAT:Hid ((pre++y::post)[i]?=some y):=hide hy0;have HSM:=hide hsm;have HRG:=hide hrg;have HLK:=hide hx;have HWAY:=hide hway;clear hset hpl hy0 hsm hrg hx hway hu;have i1:(0:Int)≤(k:Int):=by omega
 have i2:(k:Int) < (ln:Int):=by omega
 generalize hw1:w.alloc (Obj.cells #[.int .i64 (k:Int),.bool back,.int .i64 v.r,.int .i64 v.c,.int .i64 v.h,.int .i64 v.b,.int .i64 v.p] 61)=w1;have b01:=zb hw1;have kS:=zk hw1;have HZ1:Hid (w1.heap.size=w.heap.size+1):=hide (by rw [← hw1]; simp);have HSZ:=hide h.size;have st:=h.later b01;have HB1:=hide (b01.mono h.size);clear h b01;go_enter Tryz.func75,Tryz.ntmps75;go_upto_region 1 with fail
 clear hw1;have vv:Below w1.heap.size w1 w1.drew:=zq (Below.refl _ _);refine wp_region_held_drew (S:=(fun W=>(W.cell? ⟨X,0,none⟩=some (.slice (some ⟨g,0,none⟩) bn bc)∧W.cell? ⟨X,1,none⟩=some (.slice (some ⟨lb,lo,none⟩) ln lc)∧W.cell? ⟨X,2,none⟩=some (.slice sa sn sc))∧(W.cell? ⟨w.heap.size,0,none⟩=some (.int .i64 (k:Int))∧W.cell? ⟨w.heap.size,1,none⟩=some (.bool back)∧W.cell? ⟨w.heap.size,2,none⟩=some (.int .i64 v.r)∧W.cell? ⟨w.heap.size,3,none⟩=some (.int .i64 v.c)∧W.cell? ⟨w.heap.size,4,none⟩=some (.int .i64 v.h)∧W.cell? ⟨w.heap.size,5,none⟩=some (.int .i64 v.b)∧W.cell? ⟨w.heap.size,6,none⟩=some (.int .i64 v.p)))) (by kernel_rfl) (⟨zd (za st.box vv),zX (za kS vv)⟩) (fun hHeld => ?_);refine kK 0 q403 ?_;refine kK 1 q404 ?_;refine kK 2 q405 ?_;refine kK 3 q406 ?_;refine kK 4 q407 ?_;refine kK 5 q408 ?_;refine kR 6 q409 (fun K hK => ?_);go_simp;refine (zaP ⟨some ⟨g,0,none⟩,bn,bc,pre++y::post,some ⟨lb,lo,none⟩,ln,lc,ls,sa,sn,sc,ss⟩ (k:Int) _ (st.own.below vv).row).mono ?_;rintro e wz ⟨rfl,hbz⟩;rw [HU.out];have vv:=zc vv hbz;go_wp2_with fail
 refine hK.out _ _ (⟨zd (za st.box vv),zX (za kS vv)⟩) (fun hHeld => ?_);clear hK K
 try simp only [Act.put,lA,lB,lC]
 refine kK 7 q410 ?_;refine wpAnyH_done (by kernel_rfl) ?_ _;have HB2:=hide (HB1.out.trans (vv.mono st.size));have st2:=st.later vv;have kS2:=za kS vv;have HZ2:Hid (w.heap.size < wz.heap.size):=hide (by have:=vv.size; have:=HZ1.out; omega);obtain ⟨w2,hw2⟩:∃u,u=wz:=⟨_,rfl⟩;subst hw2;clear hHeld st kS vv hbz HB1 HZ1;have st:=st2;have kS:=kS2;clear st2 kS2;have HLC:Hid (∀W,Below w2.heap.size w2 W→W.cell? ⟨lb,lo+k*4,none⟩=some (.int .i64 xa)∧W.cell? ⟨lb,lo+k*4+1,none⟩=some (.int .i64 xp)∧W.cell? ⟨lb,lo+k*4+2,none⟩=some (.int .i64 xb)∧W.cell? ⟨lb,lo+k*4+3,none⟩=some (.int .i64 xq)):=hide (fun W hW=>by
  have h2:GRow linkF w2 (some ⟨lb,lo,none⟩) ln lc ls:=st.own.row.l
  have:=zhG h2 hW HLK.out
  simpa using this)
 go_upto_region 2 with fail
 go_cut [4,5] from 15 to 29 (fun _ u wx=>∃Y:Nat,u=.pointer (some ⟨Y,0,none⟩)∧NiSt wx base X ⟨some ⟨g,0,none⟩,bn,bc,pre++y::post,some ⟨lb,lo,none⟩,ln,lc,ls,sa,sn,sc,ss⟩∧wx.heap[w.heap.size]?=some (.cells #[.int .i64 (k:Int),.bool back,.int .i64 v.r,.int .i64 v.c,.int .i64 v.h,.int .i64 v.b,.int .i64 v.p] 61)∧wx.heap[Y]?=some (.cells #[.int .i64 (i:Int),.int .i64 tp] 87)∧w.heap.size < Y∧Below base w wx)
 case first =>
  have vv:Below w2.heap.size w2 w2.drew:=zq (Below.refl _ _);refine wp_region_held_drew (S:=(fun W=>(W.cell? ⟨X,0,none⟩=some (.slice (some ⟨g,0,none⟩) bn bc)∧W.cell? ⟨X,1,none⟩=some (.slice (some ⟨lb,lo,none⟩) ln lc)∧W.cell? ⟨X,2,none⟩=some (.slice sa sn sc))∧(W.cell? ⟨w.heap.size,0,none⟩=some (.int .i64 (k:Int))∧W.cell? ⟨w.heap.size,1,none⟩=some (.bool back)∧W.cell? ⟨w.heap.size,2,none⟩=some (.int .i64 v.r)∧W.cell? ⟨w.heap.size,3,none⟩=some (.int .i64 v.c)∧W.cell? ⟨w.heap.size,4,none⟩=some (.int .i64 v.h)∧W.cell? ⟨w.heap.size,5,none⟩=some (.int .i64 v.b)∧W.cell? ⟨w.heap.size,6,none⟩=some (.int .i64 v.p))∧(W.cell? ⟨lb,lo+k*4,none⟩=some (.int .i64 xa)∧W.cell? ⟨lb,lo+k*4+1,none⟩=some (.int .i64 xp)∧W.cell? ⟨lb,lo+k*4+2,none⟩=some (.int .i64 xb)∧W.cell? ⟨lb,lo+k*4+3,none⟩=some (.int .i64 xq)))) (by kernel_rfl) (⟨zd (za st.box vv),zX (za kS vv),HLC.out _ vv⟩) (fun hHeld => ?_);refine kK 0 ⟨some 16,.move (.tmp 0),98,"l14_step.go:152",#[],none⟩ ?_;refine kK 1 ⟨some 17,.nilCheck (.tmp 16),0,"l14_step.go:152",#[⟨0,.data⟩],none⟩ ?_;refine kK 2 ⟨some 18,.fieldAddr 101 (.tmp 17) 0,0,"l14_step.go:152",#[⟨1,.data⟩],none⟩ ?_;refine kK 3 ⟨some 19,.fieldAddr 31 (.tmp 18) 1,0,"l14_step.go:152",#[⟨2,.data⟩],none⟩ ?_;refine kK 4 ⟨some 20,.load 25 (.tmp 19),25,"l14_step.go:152",#[⟨3,.data⟩],none⟩ ?_;refine kK 5 ⟨some 21,.fieldAddr 61 (.tmp 3) 0,0,"l14_step.go:152",#[],none⟩ ?_;refine kK 6 ⟨some 22,.load 3 (.tmp 21),3,"l14_step.go:152",#[⟨5,.data⟩],none⟩ ?_;refine kK 7 ⟨some 23,.indexAddr 25 (.tmp 20) (.tmp 22),0,"l14_step.go:152",#[⟨4,.data⟩,⟨6,.data⟩],none⟩ ?_;refine kK 8 ⟨some 24,.load 44 (.tmp 23),44,"l14_step.go:152",#[⟨7,.data⟩],none⟩ ?_;refine kK 9 ⟨some 25,.fieldAddr 61 (.tmp 3) 1,0,"l14_step.go:152",#[],none⟩ ?_;refine kK 10 ⟨some 26,.load 4 (.tmp 25),4,"l14_step.go:152",#[⟨9,.data⟩],none⟩ ?_;refine tR [11,15,16] ?_;refine AllReadyH.cons (o:=q411) rfl (fun K hK => ?_) ?_
  ·go_simp;refine (zb4 ⟨xa,xp,xb,xq⟩ back fb fp (i:Int) tp _ HWAY.out).mono ?_;rintro e wz ⟨rfl,hbz⟩;(try have kA:=za kA hbz);(try have kC:=za kC hbz);have vv:=zc vv hbz;(go_wp2_with fail);refine hK.out _ _ (⟨zd (za st.box vv),zX (za kS vv),HLC.out _ vv⟩) (fun hHeld => ?_);clear hK K;(try simp only [Act.put,lA,lB,lC]);refine kK 12 q412 ?_;refine kK 13 q413 ?_;refine kK 14 q414 ?_;refine tR [15,16] ?_;refine AllReadyH.cons (o:=q415) rfl (fun K hK => ?_) ?_
   ·go_simp
    first
    | refine zy (K:=K _) (fun wx4 kA hbx => ?_)
    | refine zp (K:=K _) (fun wx4 kA hbx => ?_)
    have gA:w2.heap.size≤_:=vv.size;(try have dA:=zaR kC);(try have kC:=za kC hbx);have vv:=zc vv hbx;clear hbx;refine hK.out _ _ (⟨zd (za st.box vv),zX (za kS vv),HLC.out _ vv⟩) (fun hHeld => ?_);clear hK K;(try simp only [Act.put,lA,lB,lC]);refine kR 16 q416 (fun K hK => ?_);go_simp
    first
    | refine zy (K:=K _) (fun wx5 kC hbx => ?_)
    | refine zp (K:=K _) (fun wx5 kC hbx => ?_)
    have gC:w2.heap.size≤_:=vv.size;(try have dC:=zaR kA);(try have kA:=za kA hbx);have vv:=zc vv hbx;clear hbx;refine hK.out _ _ (⟨zd (za st.box vv),zX (za kS vv),HLC.out _ vv⟩) (fun hHeld => ?_);clear hK K;(try simp only [Act.put,lA,lB,lC]);refine kR 17 q417 (fun K hK => ?_);obtain ⟨xx0,xx1⟩:=zj kA;have ff0:=zf kA 0;have ff1:=zf kA 1;go_simp;refine zI (K:=K _) kA _ _ (fun wq4 kQ hgq => ?_);have vv:=vv.grown hgq vv.size (by intro j e; cases e; exact gA);have kC:=ze kC hgq (by intro j e; cases e; first | (clear dA; omega) | omega);clear xx0 xx1 ff0 ff1 kQ hgq;refine hK.out _ _ (⟨zd (za st.box vv),zX (za kS vv),HLC.out _ vv⟩) (fun hHeld => ?_);clear hK K;(try simp only [Act.put,lA,lB,lC]);refine kR 18 q418 (fun K hK => ?_);obtain ⟨xx0,xx1⟩:=zj kC;have ff0:=zf kC 0;have ff1:=zf kC 1;go_simp;refine zI (K:=K _) kC _ _ (fun wq5 kQ hgq => ?_);have vv:=vv.grown hgq vv.size (by intro j e; cases e; exact gC);clear xx0 xx1 ff0 ff1;refine hK.out _ _ (⟨zd (za st.box vv),zX (za kS vv),HLC.out _ vv⟩) (fun hHeld => ?_);clear hK K;(try simp only [Act.put,lA,lB,lC]);refine wpAnyH_done (by kernel_rfl) ?_ _;clear hHeld;(go_wp2_with fail)
    go_meet
    exact ⟨_,rfl,st.later vv,za kS vv,kQ,by have:=HZ2.out; omega,HB2.out.trans (vv.mono st.size)⟩
   refine AllReadyH.cons (o:=q416) rfl (fun K hK => ?_) ?_
   ·go_simp
    first
    | refine zy (K:=K _) (fun wx5 kC hbx => ?_)
    | refine zp (K:=K _) (fun wx5 kC hbx => ?_)
    have gC:w2.heap.size≤_:=vv.size;(try have dC:=zaR kA);(try have kA:=za kA hbx);have vv:=zc vv hbx;clear hbx;refine hK.out _ _ (⟨zd (za st.box vv),zX (za kS vv),HLC.out _ vv⟩) (fun hHeld => ?_);clear hK K;(try simp only [Act.put,lA,lB,lC]);refine kR 15 q415 (fun K hK => ?_);go_simp
    first
    | refine zy (K:=K _) (fun wx4 kA hbx => ?_)
    | refine zp (K:=K _) (fun wx4 kA hbx => ?_)
    have gA:w2.heap.size≤_:=vv.size;(try have dA:=zaR kC);(try have kC:=za kC hbx);have vv:=zc vv hbx;clear hbx;refine hK.out _ _ (⟨zd (za st.box vv),zX (za kS vv),HLC.out _ vv⟩) (fun hHeld => ?_);clear hK K;(try simp only [Act.put,lA,lB,lC]);refine kR 17 q417 (fun K hK => ?_);obtain ⟨xx0,xx1⟩:=zj kA;have ff0:=zf kA 0;have ff1:=zf kA 1;go_simp;refine zI (K:=K _) kA _ _ (fun wq4 kQ hgq => ?_);have vv:=vv.grown hgq vv.size (by intro j e; cases e; exact gA);have kC:=ze kC hgq (by intro j e; cases e; first | (clear dA; omega) | omega);clear xx0 xx1 ff0 ff1 kQ hgq;refine hK.out _ _ (⟨zd (za st.box vv),zX (za kS vv),HLC.out _ vv⟩) (fun hHeld => ?_);clear hK K;(try simp only [Act.put,lA,lB,lC]);refine kR 18 q418 (fun K hK => ?_);obtain ⟨xx0,xx1⟩:=zj kC;have ff0:=zf kC 0;have ff1:=zf kC 1;go_simp;refine zI (K:=K _) kC _ _ (fun wq5 kQ hgq => ?_);have vv:=vv.grown hgq vv.size (by intro j e; cases e; exact gC);clear xx0 xx1 ff0 ff1;refine hK.out _ _ (⟨zd (za st.box vv),zX (za kS vv),HLC.out _ vv⟩) (fun hHeld => ?_);clear hK K;(try simp only [Act.put,lA,lB,lC]);refine wpAnyH_done (by kernel_rfl) ?_ _;clear hHeld;(go_wp2_with fail)
    go_meet
    exact ⟨_,rfl,st.later vv,za kS vv,kQ,by have:=HZ2.out; omega,HB2.out.trans (vv.mono st.size)⟩
   exact AllReadyH.nil
  refine AllReadyH.cons (o:=q415) rfl (fun K hK => ?_) ?_
  ·go_simp
   first
   | refine zy (K:=K _) (fun wx4 kA hbx => ?_)
   | refine zp (K:=K _) (fun wx4 kA hbx => ?_)
   have gA:w2.heap.size≤_:=vv.size;(try have dA:=zaR kC);(try have kC:=za kC hbx);have vv:=zc vv hbx;clear hbx;refine hK.out _ _ (⟨zd (za st.box vv),zX (za kS vv),HLC.out _ vv⟩) (fun hHeld => ?_);clear hK K;(try simp only [Act.put,lA,lB,lC]);refine tR [11,16] ?_;refine AllReadyH.cons (o:=q411) rfl (fun K hK => ?_) ?_
   ·go_simp;refine (zb4 ⟨xa,xp,xb,xq⟩ back fb fp (i:Int) tp _ HWAY.out).mono ?_;rintro e wz ⟨rfl,hbz⟩;(try have kA:=za kA hbz);(try have kC:=za kC hbz);have vv:=zc vv hbz;(go_wp2_with fail);refine hK.out _ _ (⟨zd (za st.box vv),zX (za kS vv),HLC.out _ vv⟩) (fun hHeld => ?_);clear hK K;(try simp only [Act.put,lA,lB,lC]);refine kK 12 q412 ?_;refine kK 13 q413 ?_;refine kK 14 q414 ?_;refine kR 16 q416 (fun K hK => ?_);go_simp
    first
    | refine zy (K:=K _) (fun wx5 kC hbx => ?_)
    | refine zp (K:=K _) (fun wx5 kC hbx => ?_)
    have gC:w2.heap.size≤_:=vv.size;(try have dC:=zaR kA);(try have kA:=za kA hbx);have vv:=zc vv hbx;clear hbx;refine hK.out _ _ (⟨zd (za st.box vv),zX (za kS vv),HLC.out _ vv⟩) (fun hHeld => ?_);clear hK K;(try simp only [Act.put,lA,lB,lC]);refine kR 17 q417 (fun K hK => ?_);obtain ⟨xx0,xx1⟩:=zj kA;have ff0:=zf kA 0;have ff1:=zf kA 1;go_simp;refine zI (K:=K _) kA _ _ (fun wq4 kQ hgq => ?_);have vv:=vv.grown hgq vv.size (by intro j e; cases e; exact gA);have kC:=ze kC hgq (by intro j e; cases e; first | (clear dA; omega) | omega);clear xx0 xx1 ff0 ff1 kQ hgq;refine hK.out _ _ (⟨zd (za st.box vv),zX (za kS vv),HLC.out _ vv⟩) (fun hHeld => ?_);clear hK K;(try simp only [Act.put,lA,lB,lC]);refine kR 18 q418 (fun K hK => ?_);obtain ⟨xx0,xx1⟩:=zj kC;have ff0:=zf kC 0;have ff1:=zf kC 1;go_simp;refine zI (K:=K _) kC _ _ (fun wq5 kQ hgq => ?_);have vv:=vv.grown hgq vv.size (by intro j e; cases e; exact gC);clear xx0 xx1 ff0 ff1;refine hK.out _ _ (⟨zd (za st.box vv),zX (za kS vv),HLC.out _ vv⟩) (fun hHeld => ?_);clear hK K;(try simp only [Act.put,lA,lB,lC]);refine wpAnyH_done (by kernel_rfl) ?_ _;clear hHeld;(go_wp2_with fail)
    go_meet
    exact ⟨_,rfl,st.later vv,za kS vv,kQ,by have:=HZ2.out; omega,HB2.out.trans (vv.mono st.size)⟩
   refine AllReadyH.cons (o:=q416) rfl (fun K hK => ?_) ?_
   ·go_simp
    first
    | refine zy (K:=K _) (fun wx5 kC hbx => ?_)
    | refine zp (K:=K _) (fun wx5 kC hbx => ?_)
    have gC:w2.heap.size≤_:=vv.size;(try have dC:=zaR kA);(try have kA:=za kA hbx);have vv:=zc vv hbx;clear hbx;refine hK.out _ _ (⟨zd (za st.box vv),zX (za kS vv),HLC.out _ vv⟩) (fun hHeld => ?_);clear hK K;(try simp only [Act.put,lA,lB,lC]);refine kR 11 q411 (fun K hK => ?_);go_simp;refine (zb4 ⟨xa,xp,xb,xq⟩ back fb fp (i:Int) tp _ HWAY.out).mono ?_;rintro e wz ⟨rfl,hbz⟩;(try have kA:=za kA hbz);(try have kC:=za kC hbz);have vv:=zc vv hbz;(go_wp2_with fail);refine hK.out _ _ (⟨zd (za st.box vv),zX (za kS vv),HLC.out _ vv⟩) (fun hHeld => ?_);clear hK K;(try simp only [Act.put,lA,lB,lC]);refine kK 12 q412 ?_;refine kK 13 q413 ?_;refine kK 14 q414 ?_;refine kR 17 q417 (fun K hK => ?_);obtain ⟨xx0,xx1⟩:=zj kA;have ff0:=zf kA 0;have ff1:=zf kA 1;go_simp;refine zI (K:=K _) kA _ _ (fun wq4 kQ hgq => ?_);have vv:=vv.grown hgq vv.size (by intro j e; cases e; exact gA);have kC:=ze kC hgq (by intro j e; cases e; first | (clear dA; omega) | omega);clear xx0 xx1 ff0 ff1 kQ hgq;refine hK.out _ _ (⟨zd (za st.box vv),zX (za kS vv),HLC.out _ vv⟩) (fun hHeld => ?_);clear hK K;(try simp only [Act.put,lA,lB,lC]);refine kR 18 q418 (fun K hK => ?_);obtain ⟨xx0,xx1⟩:=zj kC;have ff0:=zf kC 0;have ff1:=zf kC 1;go_simp;refine zI (K:=K _) kC _ _ (fun wq5 kQ hgq => ?_);have vv:=vv.grown hgq vv.size (by intro j e; cases e; exact gC);clear xx0 xx1 ff0 ff1;refine hK.out _ _ (⟨zd (za st.box vv),zX (za kS vv),HLC.out _ vv⟩) (fun hHeld => ?_);clear hK K;(try simp only [Act.put,lA,lB,lC]);refine wpAnyH_done (by kernel_rfl) ?_ _;clear hHeld;(go_wp2_with fail)
    go_meet
    exact ⟨_,rfl,st.later vv,za kS vv,kQ,by have:=HZ2.out; omega,HB2.out.trans (vv.mono st.size)⟩
   exact AllReadyH.nil
  refine AllReadyH.cons (o:=q416) rfl (fun K hK => ?_) ?_
  ·go_simp
   first
   | refine zy (K:=K _) (fun wx5 kC hbx => ?_)
   | refine zp (K:=K _) (fun wx5 kC hbx => ?_)
   have gC:w2.heap.size≤_:=vv.size;(try have dC:=zaR kA);(try have kA:=za kA hbx);have vv:=zc vv hbx;clear hbx;refine hK.out _ _ (⟨zd (za st.box vv),zX (za kS vv),HLC.out _ vv⟩) (fun hHeld => ?_);clear hK K;(try simp only [Act.put,lA,lB,lC]);refine tR [11,15] ?_;refine AllReadyH.cons (o:=q411) rfl (fun K hK => ?_) ?_
   ·go_simp;refine (zb4 ⟨xa,xp,xb,xq⟩ back fb fp (i:Int) tp _ HWAY.out).mono ?_;rintro e wz ⟨rfl,hbz⟩;(try have kA:=za kA hbz);(try have kC:=za kC hbz);have vv:=zc vv hbz;(go_wp2_with fail);refine hK.out _ _ (⟨zd (za st.box vv),zX (za kS vv),HLC.out _ vv⟩) (fun hHeld => ?_);clear hK K;(try simp only [Act.put,lA,lB,lC]);refine kK 12 q412 ?_;refine kK 13 q413 ?_;refine kK 14 q414 ?_;refine kR 15 q415 (fun K hK => ?_);go_simp
    first
    | refine zy (K:=K _) (fun wx4 kA hbx => ?_)
    | refine zp (K:=K _) (fun wx4 kA hbx => ?_)
    have gA:w2.heap.size≤_:=vv.size;(try have dA:=zaR kC);(try have kC:=za kC hbx);have vv:=zc vv hbx;clear hbx;refine hK.out _ _ (⟨zd (za st.box vv),zX (za kS vv),HLC.out _ vv⟩) (fun hHeld => ?_);clear hK K;(try simp only [Act.put,lA,lB,lC]);refine kR 17 q417 (fun K hK => ?_);obtain ⟨xx0,xx1⟩:=zj kA;have ff0:=zf kA 0;have ff1:=zf kA 1;go_simp;refine zI (K:=K _) kA _ _ (fun wq4 kQ hgq => ?_);have vv:=vv.grown hgq vv.size (by intro j e; cases e; exact gA);have kC:=ze kC hgq (by intro j e; cases e; first | (clear dA; omega) | omega);clear xx0 xx1 ff0 ff1 kQ hgq;refine hK.out _ _ (⟨zd (za st.box vv),zX (za kS vv),HLC.out _ vv⟩) (fun hHeld => ?_);clear hK K;(try simp only [Act.put,lA,lB,lC]);refine kR 18 q418 (fun K hK => ?_);obtain ⟨xx0,xx1⟩:=zj kC;have ff0:=zf kC 0;have ff1:=zf kC 1;go_simp;refine zI (K:=K _) kC _ _ (fun wq5 kQ hgq => ?_);have vv:=vv.grown hgq vv.size (by intro j e; cases e; exact gC);clear xx0 xx1 ff0 ff1;refine hK.out _ _ (⟨zd (za st.box vv),zX (za kS vv),HLC.out _ vv⟩) (fun hHeld => ?_);clear hK K;(try simp only [Act.put,lA,lB,lC]);refine wpAnyH_done (by kernel_rfl) ?_ _;clear hHeld;(go_wp2_with fail)
    go_meet
    exact ⟨_,rfl,st.later vv,za kS vv,kQ,by have:=HZ2.out; omega,HB2.out.trans (vv.mono st.size)⟩
   refine AllReadyH.cons (o:=q415) rfl (fun K hK => ?_) ?_
   ·go_simp
    first
    | refine zy (K:=K _) (fun wx4 kA hbx => ?_)
    | refine zp (K:=K _) (fun wx4 kA hbx => ?_)
    have gA:w2.heap.size≤_:=vv.size;(try have dA:=zaR kC);(try have kC:=za kC hbx);have vv:=zc vv hbx;clear hbx;refine hK.out _ _ (⟨zd (za st.box vv),zX (za kS vv),HLC.out _ vv⟩) (fun hHeld => ?_);clear hK K;(try simp only [Act.put,lA,lB,lC]);refine kR 11 q411 (fun K hK => ?_);go_simp;refine (zb4 ⟨xa,xp,xb,xq⟩ back fb fp (i:Int) tp _ HWAY.out).mono ?_;rintro e wz ⟨rfl,hbz⟩;(try have kA:=za kA hbz);(try have kC:=za kC hbz);have vv:=zc vv hbz;(go_wp2_with fail);refine hK.out _ _ (⟨zd (za st.box vv),zX (za kS vv),HLC.out _ vv⟩) (fun hHeld => ?_);clear hK K;(try simp only [Act.put,lA,lB,lC]);refine kK 12 q412 ?_;refine kK 13 q413 ?_;refine kK 14 q414 ?_;refine kR 17 q417 (fun K hK => ?_);obtain ⟨xx0,xx1⟩:=zj kA;have ff0:=zf kA 0;have ff1:=zf kA 1;go_simp;refine zI (K:=K _) kA _ _ (fun wq4 kQ hgq => ?_);have vv:=vv.grown hgq vv.size (by intro j e; cases e; exact gA);have kC:=ze kC hgq (by intro j e; cases e; first | (clear dA; omega) | omega);clear xx0 xx1 ff0 ff1 kQ hgq;refine hK.out _ _ (⟨zd (za st.box vv),zX (za kS vv),HLC.out _ vv⟩) (fun hHeld => ?_);clear hK K;(try simp only [Act.put,lA,lB,lC]);refine kR 18 q418 (fun K hK => ?_);obtain ⟨xx0,xx1⟩:=zj kC;have ff0:=zf kC 0;have ff1:=zf kC 1;go_simp;refine zI (K:=K _) kC _ _ (fun wq5 kQ hgq => ?_);have vv:=vv.grown hgq vv.size (by intro j e; cases e; exact gC);clear xx0 xx1 ff0 ff1;refine hK.out _ _ (⟨zd (za st.box vv),zX (za kS vv),HLC.out _ vv⟩) (fun hHeld => ?_);clear hK K;(try simp only [Act.put,lA,lB,lC]);refine wpAnyH_done (by kernel_rfl) ?_ _;clear hHeld;(go_wp2_with fail)
    go_meet
    exact ⟨_,rfl,st.later vv,za kS vv,kQ,by have:=HZ2.out; omega,HB2.out.trans (vv.mono st.size)⟩
   exact AllReadyH.nil
  exact AllReadyH.nil
 case rest =>
  obtain ⟨Y,rfl,st3,kS3,kC,hYL,hB3⟩:=hcut;obtain ⟨w3,hw3⟩:∃u,u=wc:=⟨_,rfl⟩;subst hw3;have HYL:Hid (w.heap.size < Y):=hide hYL;have HB3:=hide hB3;clear st kS HLC hYL hB3 HB2 HZ2;have st:=st3;have kS:=kS3;clear st3 kS3;have vv:Below w3.heap.size w3 w3.drew:=zq (Below.refl _ _);(go_upto_region 3 with fail);refine wp_region_held_drew (S:=(fun W=>(W.cell? ⟨X,0,none⟩=some (.slice (some ⟨g,0,none⟩) bn bc)∧W.cell? ⟨X,1,none⟩=some (.slice (some ⟨lb,lo,none⟩) ln lc)∧W.cell? ⟨X,2,none⟩=some (.slice sa sn sc))∧(W.cell? ⟨Y,0,none⟩=some (.int .i64 (i:Int))∧W.cell? ⟨Y,1,none⟩=some (.int .i64 tp)))) (by kernel_rfl) (⟨zd (za st.box vv),zj (za kC vv)⟩) (fun hHeld => ?_);refine kK 0 ⟨some 30,.move (.tmp 0),98,"l14_step.go:153",#[],none⟩ ?_;refine kK 1 ⟨some 31,.nilCheck (.tmp 30),0,"l14_step.go:153",#[⟨0,.data⟩],none⟩ ?_;refine kK 2 ⟨some 32,.fieldAddr 101 (.tmp 31) 0,0,"l14_step.go:153",#[⟨1,.data⟩],none⟩ ?_;refine kK 3 ⟨some 33,.load 31 (.tmp 32),31,"l14_step.go:153",#[⟨2,.data⟩],none⟩ ?_;refine kK 4 ⟨some 34,.fieldAddr 87 (.tmp 5) 0,0,"l14_step.go:153",#[],none⟩ ?_;refine kK 5 ⟨some 35,.load 3 (.tmp 34),3,"l14_step.go:153",#[⟨4,.data⟩],none⟩ ?_;refine kR 6 ⟨some 36,.call ⟨.value (.func 46),#[.tmp 33,.tmp 35],#[31,3]⟩,81,"l14_step.go:153",#[⟨3,.data⟩,⟨5,.data⟩],none⟩ (fun K hK => ?_);go_simp;refine (zbi ⟨some ⟨g,0,none⟩,bn,bc,pre++y::post,some ⟨lb,lo,none⟩,ln,lc,ls,sa,sn,sc,ss⟩ i g 0 _ hle hib rfl).mono ?_;rintro e wz ⟨rfl,hbz⟩;have vv:=zc vv hbz;(go_wp2_with fail);refine hK.out _ _ (⟨zd (za st.box vv),zj (za kC vv)⟩) (fun hHeld => ?_);clear hK K;(try simp only [Act.put,lA,lB,lC]);refine kK 7 ⟨some 6,.assign (.tmp 36),81,"l14_step.go:153",#[⟨6,.data⟩,⟨6,.chain⟩,⟨0,.phase⟩,⟨1,.phase⟩,⟨2,.phase⟩,⟨3,.phase⟩,⟨4,.phase⟩,⟨5,.phase⟩,⟨6,.phase⟩],none⟩ ?_;refine wpAnyH_done (by kernel_rfl) ?_ _;have HB4:=hide (HB3.out.trans (vv.mono st.size));have st4:=st.later vv;have kS4:=za kS vv;have kC4:=za kC vv;obtain ⟨w4,hw4⟩:∃u,u=wz:=⟨_,rfl⟩;subst hw4;clear hHeld st kS kC vv hbz HB3;have st:=st4;have vv:Below w4.heap.size w4 w4.drew:=zq (Below.refl _ _);have kS:=za kS4 vv;have kC:=za kC4 vv;have hyr:=(st.own.b.item y (by simp)).row;obtain ⟨⟨ca0,ca1,ca2,ca3,ca4,ca5,ca6,ca7,ca8,ca9,ca10⟩,-⟩:=zT (st.own.b.below vv).row HAT.out;(try rw [Nat.zero_add]);clear st4 kS4 kC4;(go_upto_region 4 with fail);refine wp_region_held_drew (S:=(fun W=>(W.cell? ⟨w.heap.size,0,none⟩=some (.int .i64 (k:Int))∧W.cell? ⟨w.heap.size,1,none⟩=some (.bool back)∧W.cell? ⟨w.heap.size,2,none⟩=some (.int .i64 v.r)∧W.cell? ⟨w.heap.size,3,none⟩=some (.int .i64 v.c)∧W.cell? ⟨w.heap.size,4,none⟩=some (.int .i64 v.h)∧W.cell? ⟨w.heap.size,5,none⟩=some (.int .i64 v.b)∧W.cell? ⟨w.heap.size,6,none⟩=some (.int .i64 v.p))∧(W.cell? ⟨Y,0,none⟩=some (.int .i64 (i:Int))∧W.cell? ⟨Y,1,none⟩=some (.int .i64 tp)))) (by kernel_rfl) (⟨zX kS,zj kC⟩) (fun hHeld => ?_);refine kK 0 ⟨some 37,.move (.tmp 6),81,"l14_step.go:154",#[],none⟩ ?_;refine kK 1 ⟨some 38,.move (.tmp 6),81,"l14_step.go:154",#[],none⟩ ?_;refine kK 2 ⟨some 39,.nilCheck (.tmp 38),0,"l14_step.go:154",#[⟨1,.data⟩],none⟩ ?_;refine kK 4 ⟨some 41,.fieldAddr 87 (.tmp 5) 1,0,"l14_step.go:154",#[],none⟩ ?_;refine kK 5 ⟨some 42,.load 3 (.tmp 41),3,"l14_step.go:154",#[⟨4,.data⟩],none⟩ ?_;refine kK 6 ⟨some 43,.fieldAddr 61 (.tmp 3) 2,0,"l14_step.go:154",#[],none⟩ ?_;refine kK 7 ⟨some 44,.load 59 (.tmp 43),59,"l14_step.go:154",#[⟨6,.data⟩],none⟩ ?_;refine kR 3 ⟨some 40,.load 70 (.tmp 39),70,"l14_step.go:154",#[⟨2,.data⟩],none⟩ (fun K hK => ?_);go_simp;refine hK.out _ _ (⟨zX kS,zj kC⟩) (fun hHeld => ?_);clear hK K;(try simp only [Act.put,lA,lB,lC]);refine kR 8 ⟨some 45,.call ⟨.value (.func 120),#[.tmp 40,.tmp 42,.tmp 44],#[70,3,59]⟩,70,"l14_step.go:154",#[⟨3,.data⟩,⟨5,.data⟩,⟨7,.data⟩],none⟩ (fun K hK => ?_);go_simp;refine (zfg y.a y.n y.c y.fa y.fn y.fc y.ra y.rn y.rc y.oa y.on y.oc y.B tp v _ (hyr.below vv) HSM.out.1 HSM.out.2.1 HSM.out.2.2.1 HSM.out.2.2.2 HRG.out.1 HRG.out.2).mono ?_;rintro e wz ⟨a2,n2,c2,fa2,fn2,fc2,ra2,rn2,rc2,oa2,on2,oc2,rfl,ow2,hbz⟩;have ow2:=BrOwn.lt ow2 (base':=w4.heap.size) vv.size;have vv:=zc vv hbz;have kS:=za kS hbz;have kC:=za kC hbz;have hrow:=(st.own.b.below vv).row;obtain ⟨⟨t0,t1,t2,t3,t4,t5,t6,t7,t8,t9,t10⟩,f0,f1,f2,f3,f4,f5,f6,f7,f8,f9,f10⟩:=zT hrow HAT.out;(go_wp2_with fail);refine hK.out _ _ (⟨zX kS,zj kC⟩) (fun hHeld => ?_);clear hK K;(try simp only [Act.put,lA,lB,lC]);refine kK 9 ⟨some 46,.nilCheck (.tmp 37),0,"l14_step.go:154",#[⟨0,.data⟩,⟨0,.phase⟩,⟨1,.phase⟩,⟨2,.phase⟩,⟨3,.phase⟩,⟨4,.phase⟩,⟨5,.phase⟩,⟨6,.phase⟩,⟨7,.phase⟩,⟨8,.phase⟩],none⟩ ?_;refine kR 10 ⟨none,.store 70 (.tmp 46) (.tmp 45),0,"l14_step.go:154",#[⟨9,.data⟩,⟨8,.data⟩,⟨8,.chain⟩,⟨0,.phase⟩,⟨1,.phase⟩,⟨2,.phase⟩,⟨3,.phase⟩,⟨4,.phase⟩,⟨5,.phase⟩,⟨6,.phase⟩,⟨7,.phase⟩,⟨8,.phase⟩],none⟩ (fun K hK => ?_);go_simp;refine zaO (⟨a2,n2,c2,fa2,fn2,fc2,ra2,rn2,rc2,oa2,on2,oc2,(hearB y.B tp v)⟩:BV) HPL.out (K:=K _) hrow (fun wq hq hgq => ?_);have stN:=st.put (y:=(⟨a2,n2,c2,fa2,fn2,fc2,ra2,rn2,rc2,oa2,on2,oc2,(hearB y.B tp v)⟩:BV)) rfl rfl vv ow2 hgq hq;have kS:=ze kS hgq (by intro j e; cases e; have:=HG.out; omega);have kC:=ze kC hgq (by intro j e; cases e; have:=HG.out; have:=HYL.out; omega);refine hK.out _ _ (⟨zX kS,zj kC⟩) (fun hHeld => ?_);clear hK K;(try simp only [Act.put,lA,lB,lC]);refine wpAnyH_done (by kernel_rfl) ?_ _;have HST:=hide stN;clear hHeld kS kC hq hgq hrow ow2 vv stN;go_wp2;refine bodyPost_end (v:=.tuple #[]) (by simp [results,Tryz.results75,go_sem, *]) rfl ?_;refine ⟨rfl,(⟨a2,n2,c2,fa2,fn2,fc2,ra2,rn2,rc2,oa2,on2,oc2,(hearB y.B tp v)⟩:BV),rfl, ?_,HB4.out.trans HST.out.2⟩;rw [HSET.out];exact HST.out.1

theorem NiSt.saidTurn {w w2:World} {base X:Nat} {M:NV} (h:NiSt w base X M) (hg:w.grownBy w2 (Value.slice M.sa M.sn M.sc).ownBlock) {ao':Option Addr} {n' cap':Nat} {ss':List SY} (hr:w2.ownsRow base 61 7 (.slice ao' n' cap') n' (sayF.all ss')) :
  w2.heap[X]?=some (.cells #[.slice M.ba M.bn M.bc,.slice M.la M.ln M.lc,.slice M.sa M.sn M.sc] 101)∧NiSt (w2.setCell ⟨X,2,none⟩ (.slice ao' n' cap')) base X { M with sa:=ao',sn:=n',sc:=cap',ss:=ss' }∧Below base w (w2.setCell ⟨X,2,none⟩ (.slice ao' n' cap'))∧Only (X::blkL M.sa) w (w2.setCell ⟨X,2,none⟩ (.slice ao' n' cap')):=by
 have hrw:=h.own.s;have k1:=ze h.box hg (fun k hk=>zz hrw h.box (by decide) k hk);have ob:=h.own.b.typed hrw hg;have ol:=zA h.own.l hrw (by decide) hg;have hgx:w2.grownBy (w2.setCell ⟨X,2,none⟩ (.slice ao' n' cap')) (some X):=zm 2 _;have nb:=NOwn.boxedI (M:={ M with sa:=ao',sn:=n',sc:=cap',ss:=ss' }) ⟨ob,ol,hr⟩ k1 hgx;have b1:Below base w w:=Below.refl _ _;have b2:=b1.grown hg h.size (by intro k hk; exact (hrw.lt k hk).1);have hle:=h.le;refine ⟨k1,⟨?_,nb,h.le⟩,b2.grown hgx (by have:=zaR k1; omega) (by intro k e; cases e; omega), ?_⟩
 ·have:=zE (j:=2) k1 (.slice ao' n' cap')
  simpa using this
 ·exact ((Only.of_grown hg).wider (fun b hb=>List.mem_cons_of_mem _ hb)).trans ((Only.set _ _ _ _).wider (fun b hb=>by simp at hb; simp [hb]))

theorem zfQ (M:NV) (base X k:Nat) (w:World) (h:NiSt w base X M) (hk:k < M.sn) (hn:M.sn≤16777216) :
  Calls Tryz.prog 112 #[.pointer (some ⟨X,0,none⟩),.int .i64 (k:Int)] w fun e w'=>e=.returned (.tuple #[])∧NiSt w' base X { M with sn:=M.sn - 1,ss:=M.ss.take k++M.ss.drop (k+1) }∧Below base w w'∧Only (X::blkL M.sa) w w':=by
 obtain ⟨ba,bn,bc,bs,la,ln,lc,ls,sa,sn,sc,ss⟩:=M;dsimp only at hk hn ⊢;obtain ⟨g,hg⟩:∃g,sa=some ⟨g,0,none⟩:=za3 h.own.s (show 0 < sn by omega);subst hg;obtain ⟨x0,x1,x2⟩:=zd h.box;dsimp only at x0 x1 x2;go_enter Tryz.func112,Tryz.ntmps112;go_wp2_with fail
 refine (zfB base g sn sc k ss _ h.own.s hk hn).mono ?_;rintro e w1 ⟨rfl,how,hgr⟩;obtain ⟨kX,st,hb,hO⟩:=h.saidTurn hgr how;clear x0 x1 x2;obtain ⟨x0,x1,x2⟩:=zd kX;dsimp only at x0 x1 x2;have f2:=zf kX 2;have HST:=hide st;have HB:=hide hb;have HO:=hide hO;clear st hb hO how hgr h kX;go_wp2;refine bodyPost_end (v:=.tuple #[]) (by simp [results,Tryz.results112,go_sem, *]) rfl ?_;exact ⟨rfl,HST.out,HB.out,HO.out⟩

theorem zf3 {N:NV} (h:∀B∈N.brs,B.Rg):∀y∈N.bs,y.B.Rg:=fun y hy=>h y.B (by unfold NV.brs; exact List.mem_map_of_mem hy)

theorem zgk (M:NV) (base X:Nat) (s:SY) (w:World) (h:NiSt w base X M) (he:∀x∈M.ls,za6 M.brs x) (hsm:∀y∈M.bs,y.Small20) (hrg:∀B∈M.brs,B.Rg) (hso:SayOk M.ls s) :
  Calls Tryz.prog 75 #[.pointer (some ⟨X,0,none⟩),.agg #[.int .i64 s.l,.bool s.back,.int .i64 s.v.r,.int .i64 s.v.c,.int .i64 s.v.h,.int .i64 s.v.b,.int .i64 s.v.p]] w fun e w'=>e=.returned (.tuple #[])∧∃bs2:List BV,NiSt w' base X { M with bs:=bs2 }∧bs2.map BV.B=za9 M.brs M.ls 2 s∧Below base w w':=by
 obtain ⟨sl,sb,sv⟩:=s;obtain ⟨k,hk⟩:∃k:Nat,sl=(k:Int):=⟨sl.toNat,by have:=hso.1; simp at this; omega⟩;subst hk;obtain ⟨x,hx⟩:∃x,M.ls[k]?=some x:=⟨_,List.getElem?_eq_getElem (by have:=hso.1; simp at this; omega)⟩;cases hu:zae M.brs M.ls (k:Int)
 ·refine (zhy M base X k sb sv w h hu).mono ?_;rintro e w1 ⟨rfl,st,hb⟩;exact ⟨rfl,M.bs,st,by unfold za9; rw [if_neg (by intro hc; rw [hu] at hc; cases hc.2)]; rfl,hb⟩
 ·obtain ⟨-,u,v,hpa,hpb,-⟩:=he x (List.mem_of_getElem? hx);have hpa:zac (M.bs.map BV.B) x.a x.p=some u:=hpa;have hpb:zac (M.bs.map BV.B) x.b x.q=some v:=hpb;obtain ⟨i,y,hi,hy⟩:=zaJ hpa;obtain ⟨j,z,hj,hz⟩:=zaJ hpb;cases sb
  ·refine (zd8 M base X k j false sv x z (i:Int) x.p x.q w h hu hx ⟨(fun e=>by cases e),fun _=>⟨hi.symm,rfl,hj.symm,rfl⟩⟩ hz (hsm z (List.mem_of_getElem? hz)) (zf3 hrg z (List.mem_of_getElem? hz))).mono ?_;rintro e w1 ⟨rfl,y2,hy2,st,hb⟩;refine ⟨rfl,_,st, ?_,hb⟩;unfold za9 zeX;rw [if_pos ⟨rfl,hu⟩];simp only [Int.toNat_natCast,hx,if_false,Bool.false_eq_true];rw [hj];exact zbB (f:=fun B=>hearB B x.q sv) hz hy2
  ·refine (zd8 M base X k i true sv x y (j:Int) x.q x.p w h hu hx ⟨fun _=>⟨hj.symm,rfl,hi.symm,rfl⟩,(fun e=>by cases e)⟩ hy (hsm y (List.mem_of_getElem? hy)) (zf3 hrg y (List.mem_of_getElem? hy))).mono ?_;rintro e w1 ⟨rfl,y2,hy2,st,hb⟩;refine ⟨rfl,_,st, ?_,hb⟩;unfold za9 zeX;rw [if_pos ⟨rfl,hu⟩];simp only [Int.toNat_natCast,hx,if_true];rw [hi];exact zbB (f:=fun B=>hearB B x.p sv) hy hy2

theorem zib (M:NV) (base X k:Nat) (s:SY) (w:World) (h:NiSt w base X M) (hs:M.ss[k]?=some s) (hn:M.sn≤16777216) (he:∀x∈M.ls,za6 M.brs x) (hsm:∀y∈M.bs,y.Small20) (hrg:∀B∈M.brs,B.Rg) (hso:SayOk M.ls s) :
  Calls Tryz.prog 111 #[.pointer (some ⟨X,0,none⟩),.int .i64 (k:Int)] w fun e w'=>e=.returned (.tuple #[])∧∃bs2:List BV,NiSt w' base X { M with bs:=bs2,sn:=M.sn - 1,ss:=M.ss.take k++M.ss.drop (k+1) }∧bs2.map BV.B=za9 M.brs M.ls 2 s∧Below base w w':=by
 have hk:k < M.sn:=by have h1:=(List.getElem?_eq_some_iff.1 hs).1; have h2:=h.own.row.s.size; omega
 obtain ⟨x',sb0,so0,hx',hsa,a0,a1,a2,a3,a4,a5,a6⟩:=zf6 h.own.row.s k hk;rw [hs] at hx';cases hx';obtain ⟨x0,x1,x2⟩:=zd h.box;rw [hsa] at x2;have i1:(0:Int)≤(k:Int):=by omega
 have i2:(k:Int) < (M.sn:Int):=by omega
 have HSO:=hide hso;have HSA:=hide hsa;clear hsa hs;generalize hw1:w.alloc (Obj.cells #[.int .i64 s.l,.bool s.back,.int .i64 s.v.r,.int .i64 s.v.c,.int .i64 s.v.h,.int .i64 s.v.b,.int .i64 s.v.p] 61)=w1;have b01:=zb hw1;have kY:=zk hw1;have st:=h.later b01;have HB1:=hide (b01.mono h.size);have HXL:Hid (X < w.heap.size):=hide (zaR h.box);have HSL:Hid (∀b∈blkL M.sa,b < w.heap.size):=hide (fun b hb=>(h.own.s.lt b (zao.2 hb)).2);go_enter Tryz.func111,Tryz.ntmps111;go_wp2_with fail
 refine (zfQ M base X k _ st hk hn).mono ?_;rintro e w2 ⟨rfl,st2,hb2,O2⟩;have kY:=O2.kept kY (fun hc=>by
  rcases List.mem_cons.1 hc with e | e
  ·have:=HXL.out; omega
  ·have:=HSL.out _ e; omega)
 have HB2:=hide (HB1.out.trans hb2);clear x0 x1 x2 a0 a1 a2 a3 a4 a5 a6 st h b01 hb2 O2 hw1;obtain ⟨s0,s1,s2,s3,s4,s5,s6⟩:=zX kY;go_wp2_with fail
 refine (zgk _ base X s _ st2 he hsm hrg HSO.out).mono ?_;rintro e w3 ⟨rfl,bs2,st3,hbs,hb3⟩;have HST:=hide st3;have HBS:=hide hbs;have HB:=hide (HB2.out.trans hb3);clear s0 s1 s2 s3 s4 s5 s6 kY st2 st3 hbs hb3;go_wp2;refine bodyPost_end (v:=.tuple #[]) (by simp [results,Tryz.results111,go_sem, *]) rfl ?_;exact ⟨rfl,bs2,HST.out,HBS.out,HB.out⟩

end Go.Proofs.YtjfdhkjkknkmbaaGreat
