/-
  Packed: FdbImplR BrInner3 Say14.
-/
import Derived.Test.YtpaneiaflfegoaaGreatPTKW
import Derived.Test.YtpaneiaflfegoaaGreatPTK01
import Derived.Test.YtpaneiaflfegoaaGreatPTK03
import Derived.Test.YtpaneiaflfegoaaGreatPTK07
import Derived.Test.YtpaneiaflfegoaaGreatPTK15
import Derived.Test.YtpaneiaflfegoaaGreatPTK16
import Derived.Test.YtpaneiaflfegoaaGreatPTK22
import Derived.Test.YtpaneiaflfegoaaGreatPTK24
import Derived.Deep.RegionHeld3
namespace Go.Proofs.YtpaneiaflfegoaaGreat
set_option maxRecDepth 100000
set_option maxHeartbeats 16000000
open Go.RowKit

theorem zbZ {w:World} {b i:Nat} {cs:Array Value} {T:TypeId} (hk:∀cs T,w.heap[b]?≠some (.cells cs T)) (h:w.heap[i]?=some (.cells cs T)):b≠i:=by
 intro e;subst e;exact hk _ _ h

theorem zdV {w w':World} {base k:Nat} {e:TypeId} {v:Value} {n:Nat} {xs:List Value} (h:w.ownsRow base e k v n xs) {b:Nat} (hg:w.grownBy w' (some b)) (hk:∀cs T,w.heap[b]?≠some (.cells cs T)):w'.ownsRow base e k v n xs:=by
 refine zw h hg ?_;intro i hi e1;subst e1;rcases h.2 with ⟨rfl,_⟩ | ⟨g,cap,cur,rfl,_,hh,_⟩
 ·cases hi
 ·cases hi;exact hk _ _ hh

theorem Ranging.iter {P:Program} {α β:Type} {M:MK P α β} {w:World} {b r n:Nat} {g:α→Option β} {left:α→Bool} {cnt:Nat} (h:Ranging M w b r n g left cnt):∀cs T,w.heap[r]?≠some (.cells cs T):=by
 obtain ⟨es,clock,since,seen,c0,hb,he,hr,-⟩:=h;intro cs T e;rw [hr] at e;cases e

theorem Ranging.mapk {P:Program} {α β:Type} {M:MK P α β} {w:World} {b r n:Nat} {g:α→Option β} {left:α→Bool} {cnt:Nat} (h:Ranging M w b r n g left cnt):∀cs T,w.heap[b]?≠some (.cells cs T):=by
 obtain ⟨es,clock,since,seen,c0,hb,-⟩:=h;intro cs T e;rw [hb] at e;cases e

structure RSt (w:World) (it:Nat) (wr:World) (p bm:Nat) (aq:Option Addr) (cq:Nat) (l:List FE) (f:FE→Option FE) (left:FK→Bool) (cnt:Nat):Prop where
 rg:Ranging mE wr bm it 16777216 (midF f (zam l) left) left cnt
 box:wr.heap[p]?=some (.cells #[.slice aq (zan l).length cq,.map (some bm)] 231)
 own:wr.ownsRow w.heap.size 233 3 (.slice aq (zan l).length cq) (zan l).length (fkF.all (zan l))
 bel:Below w.heap.size w wr

theorem RSt.turned {w:World} {it:Nat} {wr w':World} {p bm:Nat} {aq:Option Addr} {cq:Nat} {l:List FE} {f:FE→Option FE} {left:FK→Bool} {cnt j:Nat} (h:RSt w it wr p bm aq cq l f left cnt) (hg:wr.grownBy w' (some j)) (hk:∀cs T,wr.heap[j]?≠some (.cells cs T)) (hj:w.heap.size≤j) :
  w'.heap[p]?=some (.cells #[.slice aq (zan l).length cq,.map (some bm)] 231)∧w'.ownsRow w.heap.size 233 3 (.slice aq (zan l).length cq) (zan l).length (fkF.all (zan l))∧Below w.heap.size w w' :=
 ⟨ze h.box hg (fun i hi=>by cases hi; exact zbZ hk h.box),zdV h.own hg hk,h.bel.grown hg h.bel.size (fun i hi=>by cases hi; exact hj)⟩

theorem RSt.tab {w:World} {it:Nat} {wr:World} {p bm:Nat} {aq:Option Addr} {cq:Nat} {l:List FE} {f:FE→Option FE} {left:FK→Bool} {cnt:Nat} (h:RSt w it wr p bm aq cq l f left cnt) (hl:∀k,left k=false) (h1:w.heap.size≤p) (h2:w.heap.size≤bm) (h3:∀k∈zan l,FKok k) (h4:(zan l).length≤16777216) :
  Tab wr w.heap.size p bm (zan l) (fun k=>(zam l k).bind f) :=
 ⟨⟨aq,cq,h.box,h.own⟩,by have:=h.rg.is; rw [zlL f (zam l) hl] at this; exact this,h1,h2,h3,h4⟩

def za3 (p:Int) (e:FE):Option FE:=if (e.s || (e.p != p))=true then some e else none

theorem zkW (l:List FE) (p:Int):zY l p=l.filterMap (za3 p):=by
 induction l with
 | nil=>rfl
 | cons x r ih =>
  unfold zY at *;unfold za3 at *;rw [List.filter_cons,List.filterMap_cons,ih];cases (x.s || (x.p != p)) <;> rfl

theorem zgn (ao:Option Addr) (n cap:Nat) (l:List FE) (w:World) (h:GRow fentF w ao n cap l) (hn:n≤16777216) (hR:∀x∈l,x.Rng) :
  Calls Tryz.prog 161 #[.slice ao n cap] w fun r w'=>∃ao' cap',r=.returned (.slice ao' (ageF l).length cap')∧w'.ownsRow w.heap.size 149 5 (.slice ao' (ageF l).length cap') (ageF l).length (fentF.all (ageF l))∧GRow fentF w' ao' (ageF l).length cap' (ageF l)∧Below w.heap.size w w':=by
 rw [show ageF l=l.filterMap ageE from rfl];go_enter Tryz.func161,Tryz.ntmps161;go_wp2_with fail
 refine (zeC ao n cap l _ h hn hR).mono ?_;rintro r w1 ⟨p,bm,rfl,tab,hb1⟩;obtain ⟨aq,cq,hbox,hown⟩:=tab.box;obtain ⟨⟨pq0,pq1⟩,-⟩:=zau hbox;have hmap:=tab.map;have HLP:=hide tab.lp;have HLB:=hide tab.lb;have HOK:=hide tab.oks;have HFW:=hide tab.few;have hs1:=hb1.size;clear tab;go_wp2_with (first | (at_range; refine zcw _ rfl _ rfl bm 16777216 (zam l) rfl hmap ?_; intro w2 cnt2 hrg2 hb2 hs2) | go_in)
 go_frame
 have st2:RSt w w1.heap.size w2 p bm aq cq l ageE (fun k=>(zam l k).isSome) cnt2:=⟨by rw [zgE]; exact hrg2,za hbox hb2,zi hown hb2,zc hb1 hb2⟩;have HS2:=hide st2;clear st2 hrg2 hb2 hown hbox hmap pq0 pq1 hb1
 go_loopw [13] (fun _ wr=>∃left cnt,RSt w w1.heap.size wr p bm aq cq l ageE left cnt) (fun _ wr=>wr.rangeLeft bm w1.heap.size)
 case atStart=>exact ⟨_,_,HS2.out⟩
 case round =>
  obtain ⟨left,cnt,st⟩:=hrel;clear HS2;have hrg:=st.rg;have HST:=hide st;go_wp2_with (first | (at_next; refine zcS _ rfl _ rfl bm w1.heap.size 16777216 _ left cnt rfl hrg ?_ ?_) | go_in)
  ·intro hl0;have hT:Tab wr w.heap.size p bm (zan l) (fun k=>(zam l k).bind ageE):=st.tab hl0 HLP.out HLB.out HOK.out HFW.out;have HB:=hide st.bel;clear hrg st HST;(go_wp2_with fail);refine (zit _ _ p bm _ _ hT).mono ?_;rintro r w9 ⟨ao9,cap9,rfl,ho9,hr9,hb9⟩;rw [zdU (zc6 l) ageE] at ho9 hr9;have HO:=hide (zD ho9 (base':=w.heap.size) HB.out.size);have HR:=hide hr9;have HB9:=hide (zc HB.out hb9);clear ho9 hr9 hb9 hT;go_wp2;go_ret;exact ⟨_,_,(by rw [zdU (zc6 l) ageE]; rfl),HO.out,HR.out,HB9.out⟩
  ·intro s hs;rcases s with ⟨y,v,w3,cnt3⟩
   obtain ⟨hyk,hly,hgy,hrg3,hlt3,hg3,hen⟩:=hs;dsimp only at hyk hly hgy hrg3 hlt3 hg3 hen ⊢;have hv:=hR v (zik (zj5 hly hgy));have HN:=hide (ziu hly hgy);have hls:upd left y false y=false:=zap _ _ _;have st3:=st.turned hg3 (st.rg.iter) (by omega);have HLE:=hide hrg.left_eq;clear hrg st HST;cases hvs:v.s
   ·have HVS:=hide hvs;by_cases hva:v.a < 4
    ·have hfv:ageE v=some (⟨v.t,v.m,v.p,v.a+1,v.s⟩:FE):=by unfold ageE; rw [hvs]; simp [hva]
     rw [hvs] at hen;clear hvs;have hw:IntKind.i64.wrap (v.a+1)=v.a+1:=zeF _ (by have:=hv.2.2.2; omega);have b4:=zL w3 (.cells #[.int .i64 y.1,.int .i64 y.2.1,.int .i64 y.2.2] 233) (.cells #[.int .i64 v.t,.int .i64 v.m,.int .i64 v.p,.int .i64 (v.a+1),.bool false] 149);have q1:=za st3.1 b4;have q2:=zi st3.2.1 b4;have q3:=zc st3.2.2 b4;have q4:=hrg3.below b4;have kk:=za (zr w3 (.cells #[.int .i64 y.1,.int .i64 y.2.1,.int .i64 y.2.2] 233)) (zl _ (.cells #[.int .i64 v.t,.int .i64 v.m,.int .i64 v.p,.int .i64 (v.a+1),.bool false] 149));have ke:=zr (w3.alloc (.cells #[.int .i64 y.1,.int .i64 y.2.1,.int .i64 y.2.2] 233)) (.cells #[.int .i64 v.t,.int .i64 v.m,.int .i64 v.p,.int .i64 (v.a+1),.bool false] 149);rw [show (w3.alloc (.cells #[.int .i64 y.1,.int .i64 y.2.1,.int .i64 y.2.2] 233)).heap.size=w3.heap.size+1 by simp] at ke;have hfe:upd (midF ageE (zam l) left) y (some (⟨v.t,v.m,v.p,v.a+1,v.s⟩:FE))=midF ageE (zam l) (upd left y false):=by rw [← HN.out,hfv]
     have HFE:=hide hfe;clear hfe;(go_wp2_with fail);clear hen;generalize hw4:(w3.alloc (.cells #[.int .i64 y.1,.int .i64 y.2.1,.int .i64 y.2.2] 233)).alloc (.cells #[.int .i64 v.t,.int .i64 v.m,.int .i64 v.p,.int .i64 (v.a+1),.bool false] 149)=w4 at *;obtain ⟨w5,hr5,hrg5,hg5,-⟩:=Ranging.store (w:=w4.drew) (q4.kept rfl rfl) (by unfold maxLen; omega) hyk (by rw [hgy]; rfl) (⟨v.t,v.m,v.p,v.a+1,v.s⟩:FE);have hr5:(Instr.mapUpdate 229 (.map (some bm)) (.agg #[.int .i64 y.1,.int .i64 y.2.1,.int .i64 y.2.2]) (.agg #[.int .i64 v.t,.int .i64 v.m,.int .i64 v.p,.int .i64 (v.a+1),.bool v.s])).run Tryz.prog w4.drew=.ok () w5:=hr5;rw [HVS.out] at hr5;have hg5:w4.grownBy w5 (some bm):=⟨hg5.os,hg5.tape,hg5.output,hg5.size,hg5.block⟩;rw [HFE.out] at hrg5;have hk4:=q4.mapk;have n5:=zbZ hk4 q1;have m5:=zbZ hk4 kk;have o5:=zbZ hk4 ke;have q5:=ze q1 hg5 (fun i hi=>by cases hi; exact n5);have kk5:=ze kk hg5 (fun i hi=>by cases hi; exact m5);have ke5:=ze ke hg5 (fun i hi=>by cases hi; exact o5);have HS5:=hide (show RSt w w1.heap.size w5 p bm aq cq l ageE (upd left y false) cnt3 from ⟨hrg5,q5,zdV q2 hg5 hk4,q3.grown hg5 q3.size (fun i hi=>by cases hi; exact HLB.out)⟩);have hS0:w4.drew.cell? ⟨p,1,none⟩=some (.map (some bm))∧_∧_:=⟨(zau (w:=w4.drew) q1).1.2,(zaz (w:=w4.drew) kk).1,(zC (w:=w4.drew) ke).1⟩;have hS1:w5.cell? ⟨p,1,none⟩=some (.map (some bm))∧_∧_:=⟨(zau q5).1.2,(zaz kk5).1,(zC ke5).1⟩;clear q1 q2 q3 q4 hrg3 st3 b4 hk4 n5 m5 o5 q5 kk5 ke5 hrg5 kk ke;refine wp_region_held_drew (S:=(fun W=>W.cell? ⟨p,1,none⟩=some (.map (some bm))∧(W.cell? ⟨w3.heap.size,0,none⟩=some (.int .i64 y.1)∧W.cell? ⟨w3.heap.size,1,none⟩=some (.int .i64 y.2.1)∧W.cell? ⟨w3.heap.size,2,none⟩=some (.int .i64 y.2.2))∧(W.cell? ⟨w3.heap.size+1,0,none⟩=some (.int .i64 v.t)∧W.cell? ⟨w3.heap.size+1,1,none⟩=some (.int .i64 v.m)∧W.cell? ⟨w3.heap.size+1,2,none⟩=some (.int .i64 v.p)∧W.cell? ⟨w3.heap.size+1,3,none⟩=some (.int .i64 (v.a+1))∧W.cell? ⟨w3.heap.size+1,4,none⟩=some (.bool false)))) (by kernel_rfl) (by first | exact hS0 | exact hS1) (fun hHeld => ?_);refine kK 0 ⟨some 22,.move (.tmp 3),226,"l08_fdb.go:67",#[],none⟩ ?_;refine kK 1 ⟨some 23,.nilCheck (.tmp 22),0,"l08_fdb.go:67",#[⟨0,.data⟩],none⟩ ?_;refine kK 2 ⟨some 24,.fieldAddr 231 (.tmp 23) 1,0,"l08_fdb.go:67",#[⟨1,.data⟩],none⟩ ?_;refine kK 3 ⟨some 25,.load 229 (.tmp 24),229,"l08_fdb.go:67",#[⟨2,.data⟩],none⟩ ?_;refine kK 4 ⟨some 26,.load 233 (.tmp 4),233,"l08_fdb.go:67",#[],none⟩ ?_;refine kK 5 ⟨some 27,.load 149 (.tmp 5),149,"l08_fdb.go:67",#[],none⟩ ?_;refine kR 6 ⟨none,.mapUpdate 229 (.tmp 25) (.tmp 26) (.tmp 27),0,"l08_fdb.go:67",#[⟨3,.data⟩,⟨4,.data⟩,⟨5,.data⟩,⟨0,.phase⟩,⟨1,.phase⟩,⟨2,.phase⟩,⟨3,.phase⟩,⟨4,.phase⟩,⟨5,.phase⟩],none⟩ (fun K hK => ?_);go_simp;refine hK.out _ _ (by first | exact hS0 | exact hS1) (fun hHeld => ?_);clear hK K;(try simp only [Act.put,lA,lB,lC]);refine wpAnyH_done (by kernel_rfl) ?_ _;clear hS0 hS1 hr5 hHeld;go_wp2
     go_roundw
     case rel=>exact ⟨_,_,HS5.out⟩
     case measure=>rw [HS5.out.rg.left_eq,HLE.out]; exact hlt3
    ·have hfv:ageE v=none:=by unfold ageE; rw [hvs]; simp [hva]
     have hva2:(4:Int)≤v.a:=by omega
     rw [hvs] at hen;clear hvs;have b4:=zL w3 (.cells #[.int .i64 y.1,.int .i64 y.2.1,.int .i64 y.2.2] 233) (.cells #[.int .i64 v.t,.int .i64 v.m,.int .i64 v.p,.int .i64 v.a,.bool false] 149);have q1:=za st3.1 b4;have q2:=zi st3.2.1 b4;have q3:=zc st3.2.2 b4;have q4:=hrg3.below b4;have kk:=za (zr w3 (.cells #[.int .i64 y.1,.int .i64 y.2.1,.int .i64 y.2.2] 233)) (zl _ (.cells #[.int .i64 v.t,.int .i64 v.m,.int .i64 v.p,.int .i64 v.a,.bool false] 149));have ke:=zr (w3.alloc (.cells #[.int .i64 y.1,.int .i64 y.2.1,.int .i64 y.2.2] 233)) (.cells #[.int .i64 v.t,.int .i64 v.m,.int .i64 v.p,.int .i64 v.a,.bool false] 149);rw [show (w3.alloc (.cells #[.int .i64 y.1,.int .i64 y.2.1,.int .i64 y.2.2] 233)).heap.size=w3.heap.size+1 by simp] at ke;(go_wp2_with fail);clear hen;generalize hw4:(w3.alloc (.cells #[.int .i64 y.1,.int .i64 y.2.1,.int .i64 y.2.2] 233)).alloc (.cells #[.int .i64 v.t,.int .i64 v.m,.int .i64 v.p,.int .i64 v.a,.bool false] 149)=w4 at *;obtain ⟨w5,cnt5,hr5,hrg5,hle5,hg5,-⟩:=Ranging.drop (w:=w4.drew) (q4.kept rfl rfl) hyk hls 0;have hr5:(Builtin.delete_ #[229,233] 0 #[.map (some bm),.agg #[.int .i64 y.1,.int .i64 y.2.1,.int .i64 y.2.2]]).run Tryz.prog w4.drew=.ok (.tuple #[]) w5:=hr5;have hg5:w4.grownBy w5 (some bm):=⟨hg5.os,hg5.tape,hg5.output,hg5.size,hg5.block⟩;have hfe:upd (midF ageE (zam l) left) y none=midF ageE (zam l) (upd left y false):=by rw [← HN.out,hfv]
     rw [hfe] at hrg5;have hk4:=q4.mapk;have n5:=zbZ hk4 q1;have m5:=zbZ hk4 kk;have q5:=ze q1 hg5 (fun i hi=>by cases hi; exact n5);have kk5:=ze kk hg5 (fun i hi=>by cases hi; exact m5);have HS5:=hide (show RSt w w1.heap.size w5 p bm aq cq l ageE (upd left y false) cnt5 from ⟨hrg5,q5,zdV q2 hg5 hk4,q3.grown hg5 q3.size (fun i hi=>by cases hi; exact HLB.out)⟩);have hS0:w4.drew.cell? ⟨p,1,none⟩=some (.map (some bm))∧_:=⟨(zau (w:=w4.drew) q1).1.2,(zaz (w:=w4.drew) kk).1⟩;have hS1:w5.cell? ⟨p,1,none⟩=some (.map (some bm))∧_:=⟨(zau q5).1.2,(zaz kk5).1⟩;clear q1 kk ke q2 q3 q4 hrg3 st3 hfe b4 hk4 n5 m5 q5 kk5 hrg5;refine wp_region_held_drew (S:=(fun W=>W.cell? ⟨p,1,none⟩=some (.map (some bm))∧(W.cell? ⟨w3.heap.size,0,none⟩=some (.int .i64 y.1)∧W.cell? ⟨w3.heap.size,1,none⟩=some (.int .i64 y.2.1)∧W.cell? ⟨w3.heap.size,2,none⟩=some (.int .i64 y.2.2)))) (by kernel_rfl) (by first | exact hS0 | exact hS1) (fun hHeld => ?_);refine kK 0 ⟨some 35,.move (.tmp 3),226,"l08_fdb.go:64",#[],none⟩ ?_;refine kK 1 ⟨some 36,.nilCheck (.tmp 35),0,"l08_fdb.go:64",#[⟨0,.data⟩],none⟩ ?_;refine kK 2 ⟨some 37,.fieldAddr 231 (.tmp 36) 1,0,"l08_fdb.go:64",#[⟨1,.data⟩],none⟩ ?_;refine kK 3 ⟨some 38,.load 229 (.tmp 37),229,"l08_fdb.go:64",#[⟨2,.data⟩],none⟩ ?_;refine kK 4 ⟨some 39,.load 233 (.tmp 4),233,"l08_fdb.go:64",#[],none⟩ ?_;refine kR 5 ⟨none,.call ⟨.builtin .delete,#[.tmp 38,.tmp 39],#[229,233]⟩,0,"l08_fdb.go:64",#[⟨3,.data⟩,⟨4,.data⟩],none⟩ (fun K hK => ?_);go_simp;refine hK.out _ _ (by first | exact hS0 | exact hS1) (fun hHeld => ?_);clear hK K;(try simp only [Act.put,lA,lB,lC]);refine wpAnyH_done (by kernel_rfl) ?_ _;clear hS0 hS1 hr5 hHeld;go_wp2
     go_roundw
     case rel=>exact ⟨_,_,HS5.out⟩
     case measure=>rw [HS5.out.rg.left_eq,HLE.out]; omega
   ·have hfv:ageE v=some v:=by unfold ageE; rw [hvs]; rfl
    rw [hvs] at hen;clear hvs;have b4:=zL w3 (.cells #[.int .i64 y.1,.int .i64 y.2.1,.int .i64 y.2.2] 233) (.cells #[.int .i64 v.t,.int .i64 v.m,.int .i64 v.p,.int .i64 v.a,.bool true] 149);have q1:=za st3.1 b4;have q2:=zi st3.2.1 b4;have q3:=zc st3.2.2 b4;have q4:=hrg3.below b4;have kk:=za (zr w3 (.cells #[.int .i64 y.1,.int .i64 y.2.1,.int .i64 y.2.2] 233)) (zl _ (.cells #[.int .i64 v.t,.int .i64 v.m,.int .i64 v.p,.int .i64 v.a,.bool true] 149));have ke:=zr (w3.alloc (.cells #[.int .i64 y.1,.int .i64 y.2.1,.int .i64 y.2.2] 233)) (.cells #[.int .i64 v.t,.int .i64 v.m,.int .i64 v.p,.int .i64 v.a,.bool true] 149);rw [show (w3.alloc (.cells #[.int .i64 y.1,.int .i64 y.2.1,.int .i64 y.2.2] 233)).heap.size=w3.heap.size+1 by simp] at ke;have hfe:midF ageE (zam l) left=midF ageE (zam l) (upd left y false):=by rw [← HN.out,hfv,zdY hgy]
    rw [hfe] at q4;have HS4:=hide (show RSt w w1.heap.size ((w3.alloc (.cells #[.int .i64 y.1,.int .i64 y.2.1,.int .i64 y.2.2] 233)).alloc (.cells #[.int .i64 v.t,.int .i64 v.m,.int .i64 v.p,.int .i64 v.a,.bool true] 149)) p bm aq cq l ageE (upd left y false) cnt3 from ⟨q4,q1,q2,q3⟩);clear q1 q2 q3 q4 kk ke hrg3 st3 hfe b4;go_wp2
    go_roundw
    case rel=>exact ⟨_,_,HS4.out⟩
    case measure=>rw [HS4.out.rg.left_eq,HLE.out]; exact hlt3

theorem zfB (ao:Option Addr) (n cap:Nat) (l:List FE) (p0:Int) (w:World) (h:GRow fentF w ao n cap l) (hn:n≤16777216) (hR:∀x∈l,x.Rng) :
  Calls Tryz.prog 188 #[.slice ao n cap,.int .i64 p0] w fun r w'=>∃ao' cap',r=.returned (.slice ao' (zY l p0).length cap')∧w'.ownsRow w.heap.size 149 5 (.slice ao' (zY l p0).length cap') (zY l p0).length (fentF.all (zY l p0))∧GRow fentF w' ao' (zY l p0).length cap' (zY l p0)∧Below w.heap.size w w':=by
 rw [zkW l p0];go_enter Tryz.func188,Tryz.ntmps188;go_wp2_with fail
 refine (zeC ao n cap l _ h hn hR).mono ?_;rintro r w1 ⟨p,bm,rfl,tab,hb1⟩;obtain ⟨aq,cq,hbox,hown⟩:=tab.box;obtain ⟨⟨pq0,pq1⟩,-⟩:=zau hbox;have hmap:=tab.map;have HLP:=hide tab.lp;have HLB:=hide tab.lb;have HOK:=hide tab.oks;have HFW:=hide tab.few;have hs1:=hb1.size;clear tab;go_wp2_with (first | (at_range; refine zcw _ rfl _ rfl bm 16777216 (zam l) rfl hmap ?_; intro w2 cnt2 hrg2 hb2 hs2) | go_in)
 go_frame
 have st2:RSt w w1.heap.size w2 p bm aq cq l (za3 p0) (fun k=>(zam l k).isSome) cnt2:=⟨by rw [zgE]; exact hrg2,za hbox hb2,zi hown hb2,zc hb1 hb2⟩;have HS2:=hide st2;clear st2 hrg2 hb2 hown hbox hmap pq0 pq1 hb1
 go_loopw [15] (fun _ wr=>∃left cnt,RSt w w1.heap.size wr p bm aq cq l (za3 p0) left cnt) (fun _ wr=>wr.rangeLeft bm w1.heap.size)
 case atStart=>exact ⟨_,_,HS2.out⟩
 case round =>
  obtain ⟨left,cnt,st⟩:=hrel;clear HS2;have hrg:=st.rg;have HST:=hide st;go_wp2_with (first | (at_next; refine zcS _ rfl _ rfl bm w1.heap.size 16777216 _ left cnt rfl hrg ?_ ?_) | go_in)
  ·intro hl0;have hT:Tab wr w.heap.size p bm (zan l) (fun k=>(zam l k).bind (za3 p0)):=st.tab hl0 HLP.out HLB.out HOK.out HFW.out;have HB:=hide st.bel;clear hrg st HST;(go_wp2_with fail);refine (zit _ _ p bm _ _ hT).mono ?_;rintro r w9 ⟨ao9,cap9,rfl,ho9,hr9,hb9⟩;rw [zdU (zc6 l) (za3 p0)] at ho9 hr9;have HO:=hide (zD ho9 (base':=w.heap.size) HB.out.size);have HR:=hide hr9;have HB9:=hide (zc HB.out hb9);clear ho9 hr9 hb9 hT;go_wp2;go_ret;exact ⟨_,_,(by rw [zdU (zc6 l) (za3 p0)]; rfl),HO.out,HR.out,HB9.out⟩
  ·intro s hs;rcases s with ⟨y,v,w3,cnt3⟩
   obtain ⟨hyk,hly,hgy,hrg3,hlt3,hg3,hen⟩:=hs;dsimp only at hyk hly hgy hrg3 hlt3 hg3 hen ⊢;have hv:=hR v (zik (zj5 hly hgy));have HN:=hide (ziu hly hgy);have hls:upd left y false y=false:=zap _ _ _;have st3:=st.turned hg3 (st.rg.iter) (by omega);have HLE:=hide hrg.left_eq;clear hrg st HST;cases hvs:v.s
   ·cases hvp:(v.p == p0)
    ·have hfv:za3 p0 v=some v:=by unfold za3; rw [hvs]; simp at hvp; simp [hvp]
     rw [hvs] at hen;clear hvs;have b4:=zL w3 (.cells #[.int .i64 y.1,.int .i64 y.2.1,.int .i64 y.2.2] 233) (.cells #[.int .i64 v.t,.int .i64 v.m,.int .i64 v.p,.int .i64 v.a,.bool false] 149);have q1:=za st3.1 b4;have q2:=zi st3.2.1 b4;have q3:=zc st3.2.2 b4;have q4:=hrg3.below b4;have kk:=za (zr w3 (.cells #[.int .i64 y.1,.int .i64 y.2.1,.int .i64 y.2.2] 233)) (zl _ (.cells #[.int .i64 v.t,.int .i64 v.m,.int .i64 v.p,.int .i64 v.a,.bool false] 149));have ke:=zr (w3.alloc (.cells #[.int .i64 y.1,.int .i64 y.2.1,.int .i64 y.2.2] 233)) (.cells #[.int .i64 v.t,.int .i64 v.m,.int .i64 v.p,.int .i64 v.a,.bool false] 149);rw [show (w3.alloc (.cells #[.int .i64 y.1,.int .i64 y.2.1,.int .i64 y.2.2] 233)).heap.size=w3.heap.size+1 by simp] at ke;have hfe:midF (za3 p0) (zam l) left=midF (za3 p0) (zam l) (upd left y false):=by rw [← HN.out,hfv,zdY hgy]
     rw [hfe] at q4;have HS4:=hide (show RSt w w1.heap.size ((w3.alloc (.cells #[.int .i64 y.1,.int .i64 y.2.1,.int .i64 y.2.2] 233)).alloc (.cells #[.int .i64 v.t,.int .i64 v.m,.int .i64 v.p,.int .i64 v.a,.bool false] 149)) p bm aq cq l (za3 p0) (upd left y false) cnt3 from ⟨q4,q1,q2,q3⟩);clear q1 q2 q3 q4 kk ke hrg3 st3 hfe b4;go_wp2
     go_roundw
     case rel=>exact ⟨_,_,HS4.out⟩
     case measure=>rw [HS4.out.rg.left_eq,HLE.out]; exact hlt3
    ·have hfv:za3 p0 v=none:=by unfold za3; rw [hvs]; simp at hvp; simp [hvp]
     rw [hvs] at hen;clear hvs;have b4:=zL w3 (.cells #[.int .i64 y.1,.int .i64 y.2.1,.int .i64 y.2.2] 233) (.cells #[.int .i64 v.t,.int .i64 v.m,.int .i64 v.p,.int .i64 v.a,.bool false] 149);have q1:=za st3.1 b4;have q2:=zi st3.2.1 b4;have q3:=zc st3.2.2 b4;have q4:=hrg3.below b4;have kk:=za (zr w3 (.cells #[.int .i64 y.1,.int .i64 y.2.1,.int .i64 y.2.2] 233)) (zl _ (.cells #[.int .i64 v.t,.int .i64 v.m,.int .i64 v.p,.int .i64 v.a,.bool false] 149));have ke:=zr (w3.alloc (.cells #[.int .i64 y.1,.int .i64 y.2.1,.int .i64 y.2.2] 233)) (.cells #[.int .i64 v.t,.int .i64 v.m,.int .i64 v.p,.int .i64 v.a,.bool false] 149);rw [show (w3.alloc (.cells #[.int .i64 y.1,.int .i64 y.2.1,.int .i64 y.2.2] 233)).heap.size=w3.heap.size+1 by simp] at ke;(go_wp2_with fail);clear hen;generalize hw4:(w3.alloc (.cells #[.int .i64 y.1,.int .i64 y.2.1,.int .i64 y.2.2] 233)).alloc (.cells #[.int .i64 v.t,.int .i64 v.m,.int .i64 v.p,.int .i64 v.a,.bool false] 149)=w4 at *;obtain ⟨w5,cnt5,hr5,hrg5,hle5,hg5,-⟩:=Ranging.drop (w:=w4.drew) (q4.kept rfl rfl) hyk hls 0;have hr5:(Builtin.delete_ #[229,233] 0 #[.map (some bm),.agg #[.int .i64 y.1,.int .i64 y.2.1,.int .i64 y.2.2]]).run Tryz.prog w4.drew=.ok (.tuple #[]) w5:=hr5;have hg5:w4.grownBy w5 (some bm):=⟨hg5.os,hg5.tape,hg5.output,hg5.size,hg5.block⟩;have hfe:upd (midF (za3 p0) (zam l) left) y none=midF (za3 p0) (zam l) (upd left y false):=by rw [← HN.out,hfv]
     rw [hfe] at hrg5;have hk4:=q4.mapk;have n5:=zbZ hk4 q1;have m5:=zbZ hk4 kk;have q5:=ze q1 hg5 (fun i hi=>by cases hi; exact n5);have kk5:=ze kk hg5 (fun i hi=>by cases hi; exact m5);have HS5:=hide (show RSt w w1.heap.size w5 p bm aq cq l (za3 p0) (upd left y false) cnt5 from ⟨hrg5,q5,zdV q2 hg5 hk4,q3.grown hg5 q3.size (fun i hi=>by cases hi; exact HLB.out)⟩);have hS0:w4.drew.cell? ⟨p,1,none⟩=some (.map (some bm))∧_:=⟨(zau (w:=w4.drew) q1).1.2,(zaz (w:=w4.drew) kk).1⟩;have hS1:w5.cell? ⟨p,1,none⟩=some (.map (some bm))∧_:=⟨(zau q5).1.2,(zaz kk5).1⟩;clear q1 kk ke q2 q3 q4 hrg3 st3 hfe b4 hk4 n5 m5 q5 kk5 hrg5;refine wp_region_held_drew (S:=(fun W=>W.cell? ⟨p,1,none⟩=some (.map (some bm))∧(W.cell? ⟨w3.heap.size,0,none⟩=some (.int .i64 y.1)∧W.cell? ⟨w3.heap.size,1,none⟩=some (.int .i64 y.2.1)∧W.cell? ⟨w3.heap.size,2,none⟩=some (.int .i64 y.2.2)))) (by kernel_rfl) (by first | exact hS0 | exact hS1) (fun hHeld => ?_);refine kK 0 ⟨some 29,.move (.tmp 5),226,"l08_fdb.go:77",#[],none⟩ ?_;refine kK 1 ⟨some 30,.nilCheck (.tmp 29),0,"l08_fdb.go:77",#[⟨0,.data⟩],none⟩ ?_;refine kK 2 ⟨some 31,.fieldAddr 231 (.tmp 30) 1,0,"l08_fdb.go:77",#[⟨1,.data⟩],none⟩ ?_;refine kK 3 ⟨some 32,.load 229 (.tmp 31),229,"l08_fdb.go:77",#[⟨2,.data⟩],none⟩ ?_;refine kK 4 ⟨some 33,.load 233 (.tmp 6),233,"l08_fdb.go:77",#[],none⟩ ?_;refine kR 5 ⟨none,.call ⟨.builtin .delete,#[.tmp 32,.tmp 33],#[229,233]⟩,0,"l08_fdb.go:77",#[⟨3,.data⟩,⟨4,.data⟩],none⟩ (fun K hK => ?_);go_simp;refine hK.out _ _ (by first | exact hS0 | exact hS1) (fun hHeld => ?_);clear hK K;(try simp only [Act.put,lA,lB,lC]);refine wpAnyH_done (by kernel_rfl) ?_ _;clear hS0 hS1 hr5 hHeld;go_wp2
     go_roundw
     case rel=>exact ⟨_,_,HS5.out⟩
     case measure=>rw [HS5.out.rg.left_eq,HLE.out]; omega
   ·have hfv:za3 p0 v=some v:=by unfold za3; rw [hvs]; rfl
    rw [hvs] at hen;clear hvs;have b4:=zL w3 (.cells #[.int .i64 y.1,.int .i64 y.2.1,.int .i64 y.2.2] 233) (.cells #[.int .i64 v.t,.int .i64 v.m,.int .i64 v.p,.int .i64 v.a,.bool true] 149);have q1:=za st3.1 b4;have q2:=zi st3.2.1 b4;have q3:=zc st3.2.2 b4;have q4:=hrg3.below b4;have kk:=za (zr w3 (.cells #[.int .i64 y.1,.int .i64 y.2.1,.int .i64 y.2.2] 233)) (zl _ (.cells #[.int .i64 v.t,.int .i64 v.m,.int .i64 v.p,.int .i64 v.a,.bool true] 149));have ke:=zr (w3.alloc (.cells #[.int .i64 y.1,.int .i64 y.2.1,.int .i64 y.2.2] 233)) (.cells #[.int .i64 v.t,.int .i64 v.m,.int .i64 v.p,.int .i64 v.a,.bool true] 149);rw [show (w3.alloc (.cells #[.int .i64 y.1,.int .i64 y.2.1,.int .i64 y.2.2] 233)).heap.size=w3.heap.size+1 by simp] at ke;have hfe:midF (za3 p0) (zam l) left=midF (za3 p0) (zam l) (upd left y false):=by rw [← HN.out,hfv,zdY hgy]
    rw [hfe] at q4;have HS4:=hide (show RSt w w1.heap.size ((w3.alloc (.cells #[.int .i64 y.1,.int .i64 y.2.1,.int .i64 y.2.2] 233)).alloc (.cells #[.int .i64 v.t,.int .i64 v.m,.int .i64 v.p,.int .i64 v.a,.bool true] 149)) p bm aq cq l (za3 p0) (upd left y false) cnt3 from ⟨q4,q1,q2,q3⟩);clear q1 q2 q3 q4 kk ke hrg3 st3 hfe b4;go_wp2
    go_roundw
    case rel=>exact ⟨_,_,HS4.out⟩
    case measure=>rw [HS4.out.rg.left_eq,HLE.out]; exact hlt3

def zaC (bits:Int):Nat→List Int
 | 0=>[]
 | k+1=>if bitOf bits (k:Int)=true then zaC bits k else zaC bits k++[(k:Int)]

theorem zcX (bits:Int) (l:List FE):∀k,(zaC bits k).foldl zY l=zaA bits l k
 | 0=>rfl
 | k+1=>by
  rw [zaC,zaA]
  split
  ·exact zcX bits l k
  ·rw [List.foldl_append,zcX bits l k]
   rfl

theorem zev (bits:Int):∀k,(zaC bits k).length≤k
 | 0=>Nat.le_refl _
 | k+1=>by
  rw [zaC]
  have:=zev bits k
  split
  ·omega
  ·simp; omega

theorem zje:∀b0 b1 b2 b3 b4 b5:Bool,∀n:Fin 7,0≤zcP (six b0 b1 b2 b3 b4 b5) n.val∧zcP (six b0 b1 b2 b3 b4 b5) n.val≤63:=by
 decide +kernel

theorem zkj (id:Int) (l:List PT):0≤zbh id l∧zbh id l≤63:=by
 unfold zbh;rw [ziF];generalize (fun i:Nat=>decide (zaI id l (i:Int)≤2))=f;have hn:min l.length 6≤6:=Nat.min_le_right _ _;generalize min l.length 6=m at hn;have e:∀j,j < 6→f j=six (f 0) (f 1) (f 2) (f 3) (f 4) (f 5) j:=by
  intro j hj;rcases (show j=0∨j=1∨j=2∨j=3∨j=4∨j=5 by omega) with rfl | rfl | rfl | rfl | rfl | rfl <;> rfl
 rw [zfj f _ m (fun j hj=>e j (by omega))];exact zje (f 0) (f 1) (f 2) (f 3) (f 4) (f 5) ⟨m,by omega⟩

theorem zjN (id:Int) (l:List PT) (k:Nat) (hk:k≤7):hasP (zbh id l) (k:Int)=bitOf (zbh id l) (k:Int):=by
 have:=zkj id l
 exact zjM (by unfold I64; omega) (Or.inl (by omega))

theorem zeL (id:Int) (a:Option Addr) (n c:Nat) (l:List PT) (w:World) (h:GRow ptF w a n c l) (hn:n≤6) (bits:Int) (hbits:zbh id l=bits) :
  Calls Tryz.prog 187 #[.slice a n c,.int .i64 id] w fun e w'=>∃ao cap,e=.returned (.slice ao (zaC bits n).length cap)∧w'.ownsRow w.heap.size 3 1 (.slice ao (zaC bits n).length cap) (zaC bits n).length (intF.all (zaC bits n))∧Below w.heap.size w w':=by
 have HBI:Hid (∀k:Nat,k≤7→hasP bits (k:Int)=bitOf bits (k:Int)):=hide (fun k hk=>by rw [← hbits]; exact zjN id l k hk);have HBT:=hide hbits;clear hbits;go_enter Tryz.func187,Tryz.ntmps187;go_wp2_with fail
 refine (zfG id a n c l _ h).mono ?_;rintro e w1 ⟨rfl,hb1⟩;rw [HBT.out];go_wp2_with fail
 go_loopw [6,13] (fun p i wr=>∃(k:Nat) (ao:Option Addr) (cap:Nat),k≤n∧i=.int .i64 k∧p=.slice ao (zaC bits k).length cap∧wr.ownsRow w.heap.size 3 1 (.slice ao (zaC bits k).length cap) (zaC bits k).length (intF.all (zaC bits k))∧Below w.heap.size w wr) (fun _ i _=>n - (intOf i).toNat)
 case atStart=>exact ⟨0,none,0,Nat.zero_le _,rfl,rfl,World.ownsRow_nil _ _ _ _,hb1⟩
 case round =>
  obtain ⟨k,ao,cap,hk,rfl,rfl,own,hb⟩:=hrel;clear hb1;by_cases hlt:k < n
  ·have i1:(0:Int)≤(k:Int):=by omega
   have i2:(k:Int) < (n:Int):=by omega
   have HLQ:=hide (zev bits k);(go_wp2_with fail);refine (zeh bits (k:Int) (by omega) _).mono ?_;rintro e w2 ⟨rfl,e2⟩;obtain rfl:=e2.symm;rw [HBI.out k (by omega)];cases hbk:bitOf bits (k:Int)
   ·have HF:Hid (zaC bits (k+1)=zaC bits k++[(k:Int)]):=hide (by rw [zaC,if_neg (by rw [hbk]; decide)]);clear hbk;generalize hwa:wr.alloc (Obj.cells #[Value.int .i64 k] 3)=wa;have bra:=zb hwa;have ka:=zk hwa;have gone:GRow intF wa (some ⟨wr.heap.size,0,none⟩) 1 1 [(k:Int)]:=zB (F:=intF) (zlP intF (x:=(k:Int)) (base:=0) ka rfl (Nat.zero_le _));have hI2:=zi own bra;have HBA:=hide (zc hb bra);clear own hb;generalize hq:(zaC bits k).length=q at *;go_wp2_with (at_builtin; refine zaa (F:=intF) _ rfl _ _ 60 3 rfl w.heap.size Tryz.underlying60 Tryz.infoI64 rfl (by decide) _ q (zaC bits k) rfl hI2 (some ⟨wr.heap.size,0,none⟩) 1 1 [(k:Int)] rfl gone (by have:=HLQ.out; omega) HBA.out.size ?_)
    intro a7 c7 w7 how hr hgr hb7;have HB7:=hide (HBA.out.trans hb7);have HQ1:Hid ((zaC bits (k+1)).length=q+1):=hide (by rw [HF.out,List.length_append,hq]; rfl);rw [← HF.out] at how;have HO:=hide how;clear how hr hgr hb7 hI2 gone ka hq;go_wp2
    go_roundw
    case rel=>exact ⟨k+1,a7,c7,by omega,by go_num,by rw [HQ1.out],by rw [HQ1.out]; exact HO.out,HB7.out⟩
    case measure=>simp [intOf]; omega
   ·have HF:Hid (zaC bits (k+1)=zaC bits k):=hide (by rw [zaC,if_pos hbk]);have HO:=hide own;clear hbk own;go_wp2
    go_roundw
    case rel=>exact ⟨k+1,ao,cap,by omega,by go_num,by rw [HF.out],by rw [HF.out]; exact HO.out,hb⟩
    case measure=>simp [intOf]; omega
  ·have hkn:k=n:=by omega
   subst hkn;have HO:=hide own;clear own;go_wp2;go_ret;exact ⟨ao,cap,rfl,HO.out,hb⟩

theorem zi2 {l:List FE} (h:∀x∈l,x.Rng) (p:Int):∀x∈zY l p,x.Rng:=fun x hx=>h x (List.mem_filter.1 hx).1

theorem zjI (qs:List Int):∀{l:List FE},(∀x∈l,x.Rng)→∀x∈qs.foldl zY l,x.Rng:=by
 induction qs with
 | nil=>exact fun h=>h
 | cons q qs ih=>exact fun h=>ih (zi2 h q)

theorem zjH (qs:List Int):∀{l:List FE},(qs.foldl zY l).length≤l.length:=by
 induction qs with
 | nil=>exact Nat.le_refl _
 | cons q qs ih=>exact Nat.le_trans ih (List.length_filter_le _ _)

theorem zl7 {w:World} {base:Nat} {ao:Option Addr} {n cap:Nat} {l:List Int} (h:w.ownsRow base 3 1 (.slice ao n cap) n (intF.all l)) (i:Nat) (hi:i < n):∃(z:Int) (b off:Nat),l[i]?=some z∧ao=some ⟨b,off,none⟩∧w.cell? ⟨b,off+i,none⟩=some (.int .i64 z):=by
 obtain ⟨z,b,off,hz,ha,hc⟩:=(zB (F:=intF) h).at i hi;exact ⟨z,b,off,hz,ha,by have:=hc 0 _ rfl; simpa [intF] using this⟩

theorem zeT {qs:List Int} {k:Nat} {z:Int} (hz:qs[k]?=some z) (l:List FE):(qs.take (k+1)).foldl zY l=zY ((qs.take k).foldl zY l) z:=by
 rw [List.take_add_one,hz,List.foldl_append]
 rfl

theorem zbS (base:Nat) (a:Option Addr) (n c:Nat) (fa:Option Addr) (fn fc:Nat) (ra:Option Addr) (rn rc:Nat) (oa:Option Addr) (on oc:Nat) (B:BR) (w:World) (h:BrOwn w base a n c fa fn fc ra rn rc oa on oc B) (hbase:base≤w.heap.size) (hn:n≤6) (hfn:fn≤16777216) (hv:0≤B.vers∧B.vers≤1000000) (hR:∀x∈B.f,x.Rng) :
  Calls Tryz.prog 162 #[.agg #[.slice a n c,.int .i64 B.id,.string B.name,.slice none 0 0,.slice fa fn fc,.slice ra rn rc,.slice oa on oc,.int .i64 B.ticks,.int .i64 B.parse,.int .i64 B.word,.int .i64 B.drops,.int .i64 B.vers]] w fun e w'=>∃(fa2:Option Addr) (fn2 fc2:Nat),e=.returned (.agg #[.int .i64 B.id,.string B.name,.slice a n c,.slice fa2 fn2 fc2,.slice ra rn rc,.slice oa on oc,.int .i64 B.ticks,.int .i64 B.parse,.int .i64 B.word,.int .i64 B.drops,.int .i64 (zab B.vers)])∧BrOwn w' base a n c fa2 fn2 fc2 ra rn rc oa on oc (turned B)∧Below w.heap.size w w':=by
 have hpl:=hide (zB (F:=ptF) h.ports).size;have HFL:=hide (zB (F:=fentF) h.f).size;generalize hw1:w.alloc (Obj.cells #[.slice a n c,.int .i64 B.id,.string B.name,.slice none 0 0,.slice fa fn fc,.slice ra rn rc,.slice oa on oc,.int .i64 B.ticks,.int .i64 B.parse,.int .i64 B.word,.int .i64 B.drops,.int .i64 B.vers] 125)=w1;generalize hw2:w1.alloc (Obj.cells #[.int .i64 0,.string ⟨#[]⟩,.slice none 0 0,.slice none 0 0,.slice none 0 0,.slice none 0 0,.int .i64 0,.int .i64 0,.int .i64 0,.int .i64 0,.int .i64 0] 64)=w2;have b01:=zb hw1;have b12:=zb hw2;have z1:w.heap.size < w1.heap.size:=by rw [← hw1]; simp
 have st2:IbSt w w2 w1.heap.size w.heap.size #[.int .i64 0,.string ⟨#[]⟩,.slice none 0 0,.slice none 0 0,.slice none 0 0,.slice none 0 0,.int .i64 0,.int .i64 0,.int .i64 0,.int .i64 0,.int .i64 0] #[.slice a n c,.int .i64 B.id,.string B.name,.slice none 0 0,.slice fa fn fc,.slice ra rn rc,.slice oa on oc,.int .i64 B.ticks,.int .i64 B.parse,.int .i64 B.word,.int .i64 B.drops,.int .i64 B.vers] 64 125:=⟨za (zk hw1) b12,by rw [← hw2]; exact zr _ _,zc b01 b12,Nat.le_refl _,Nat.le_of_lt z1,Nat.ne_of_gt z1⟩;have own2:=h.below (zc b01 b12);obtain ⟨x0,x1,x2,x3,x4,x5,x6,x7,x8,x9,x10,x11⟩:=zah st2.box;have f11:=zf st2.box 11;obtain ⟨V,hV⟩:∃V,V=zab B.vers:=⟨_,rfl⟩;have HV:=hide hV;have HVR:=hide hv;have HR:=hide hR;clear hv hR z1 b01 b12;go_enter Tryz.func162,Tryz.ntmps162;go_wp2_with fail
 refine (zei B.vers _ HVR.out.2 HVR.out.1).mono ?_;rintro e w3 ⟨rfl,e3⟩;obtain rfl:=e3.symm;rw [← hV];clear hV hw1 hw2;generalize hRR:w1.heap.size=R at *;have st4:=st2.put 11 (.int .i64 V) (cs':=#[.slice a n c,.int .i64 B.id,.string B.name,.slice none 0 0,.slice fa fn fc,.slice ra rn rc,.slice oa on oc,.int .i64 B.ticks,.int .i64 B.parse,.int .i64 B.word,.int .i64 B.drops,.int .i64 V]) rfl;have own4:=own2.other st2.box (by decide) (by decide) (by decide) (by decide) 11 (.int .i64 V);generalize hw4:w2.setCell ⟨w.heap.size,11,none⟩ (.int .i64 V)=w4 at st4 own4;go_upto_region 2 with fail
 clear x0 x1 x2 x3 x4 x5 x6 x7 x8 x9 x10 x11 f11 st2 own2
 try rw [hw4]
 clear hw4;obtain ⟨x0,x1,x2,x3,x4,x5,x6,x7,x8,x9,x10,x11⟩:=zah st4.box;generalize hbits:zbh B.id B.ports=bits;have HBI:=hide hbits;go_wp2_with fail
 refine (zeL B.id a n c B.ports _ (zB (F:=ptF) own4.ports) hn bits hbits).mono ?_;rintro e w5 ⟨aq,cq,rfl,oq,hb5⟩;have st5:=st4.later hb5;have own5:=own4.below hb5;have HQ6:=hide (Nat.le_trans (zev bits n) hn);have HQF:=hide (zcX bits B.f n);have oq:=zD oq (base':=w.heap.size) st4.below.size;clear x0 x1 x2 x3 x4 x5 x6 x7 x8 x9 x10 x11 st4 own4 hb5 hbits;generalize hqs:zaC bits n=qs at *;generalize hqn:qs.length=qn at *;have HQN:=hide hqn;clear hqn hqs;go_wp2_with fail
 go_loopw [18] (fun i wr=>∃(k:Nat) (fa2:Option Addr) (fn2 fc2:Nat),k≤qn∧i=.int .i64 k∧fn2≤fn∧IbSt w wr R w.heap.size #[.int .i64 0,.string ⟨#[]⟩,.slice none 0 0,.slice none 0 0,.slice none 0 0,.slice none 0 0,.int .i64 0,.int .i64 0,.int .i64 0,.int .i64 0,.int .i64 0] #[.slice a n c,.int .i64 B.id,.string B.name,.slice none 0 0,.slice fa2 fn2 fc2,.slice ra rn rc,.slice oa on oc,.int .i64 B.ticks,.int .i64 B.parse,.int .i64 B.word,.int .i64 B.drops,.int .i64 V] 64 125∧BrOwn wr base a n c fa2 fn2 fc2 ra rn rc oa on oc { B with f:=(qs.take k).foldl zY B.f }∧wr.ownsRow w.heap.size 3 1 (.slice aq qn cq) qn (intF.all qs)) (fun i _=>qn - (intOf i).toNat)
 case atStart=>exact ⟨0,fa,fn,fc,Nat.zero_le _,rfl,Nat.le_refl _,st5,own5,oq⟩
 case round =>
  obtain ⟨k,fa2,fn2,fc2,hk,rfl,hf2,st,own,oq⟩:=hrel;have hq6:qn≤6:=HQ6.out;clear st5 own5;obtain ⟨x0,x1,x2,x3,x4,x5,x6,x7,x8,x9,x10,x11⟩:=zah st.box;by_cases hlt:k < qn
  ·have i1:(0:Int)≤(k:Int):=by omega
   have i2:(k:Int) < (qn:Int):=by omega
   obtain ⟨z,qb,qo,hz,rfl,cz⟩:=zl7 oq k hlt;have HF:=hide (zeT hz B.f);have HRF:Hid (∀x∈(qs.take k).foldl zY B.f,x.Rng):=hide (zjI _ HR.out);have HLF:Hid (((qs.take (k+1)).foldl zY B.f).length≤fn):=hide (by have:=zjH (qs.take (k+1)) (l:=B.f); have:=HFL.out; omega);clear hz;generalize hLS:(qs.take k).foldl zY B.f=ls at *;(go_wp2_with fail);refine (zfB fa2 fn2 fc2 ls z _ (zB (F:=fentF) own.f) (by omega) HRF.out).mono ?_;rintro e w7 ⟨fa7,fc7,rfl,o7,-,hb7⟩;have st7:=st.later hb7;have oq7:=zi oq hb7;have o7:=zD o7 (base':=base) (Nat.le_trans hbase st.below.size);have own7:=(own.below hb7).putF (Below.refl _ _) o7;clear x0 x1 x2 x3 x4 x5 x6 x7 x8 x9 x10 x11 hb7 o7 st own cz oq;obtain ⟨x0,x1,x2,x3,x4,x5,x6,x7,x8,x9,x10,x11⟩:=zah st7.box;have f4:=zf st7.box 4;rw [← HF.out] at own7 ⊢;generalize hL:((qs.take (k+1)).foldl zY B.f).length=L at *;have HST:=hide (st7.put 4 (.slice fa7 L fc7) (cs':=#[.slice a n c,.int .i64 B.id,.string B.name,.slice none 0 0,.slice fa7 L fc7,.slice ra rn rc,.slice oa on oc,.int .i64 B.ticks,.int .i64 B.parse,.int .i64 B.word,.int .i64 B.drops,.int .i64 V]) rfl);have HOW:=hide (own7.other st7.box (by decide) (by decide) (by decide) (by decide) 4 (.slice fa7 L fc7));have HOQ:=hide (st7.stay oq7 (by decide) 4 (.slice fa7 L fc7));clear st7 own7 oq7 hL;go_wp2
   go_roundw
   case rel=>exact ⟨k+1,fa7,L,fc7,by omega,by go_num,HLF.out,HST.out,HOW.out,HOQ.out⟩
   case measure=>simp [intOf]; omega
  ·have hkn:k=qn:=by omega
   subst hkn;have HT:Hid (turned B={ B with vers:=V,f:=(qs.take k).foldl zY B.f }):=hide (by unfold turned; rw [HBI.out,hpl.out,HV.out,← HQF.out,List.take_of_length_le (by rw [HQN.out]; exact Nat.le_refl _)]);have HST:=hide st;have HOW:=hide own;clear st own oq;(go_wp2_with fail);refine (zav a n c fa2 fn2 fc2 ra rn rc oa on oc { B with vers:=V } _).mono ?_;rintro e w8 ⟨rfl,hb8⟩;have st8:=HST.out.later hb8;have own8:=HOW.out.below hb8;clear x0 x1 x2 x3 x4 x5 x6 x7 x8 x9 x10 x11 hb8;obtain ⟨y0,y1,y2,y3,y4,y5,y6,y7,y8,y9,y10⟩:=zo st8.res;have fr:=zf st8.res;have fr0:=fr 0;have fr1:=fr 1;have fr2:=fr 2;have fr3:=fr 3;have fr4:=fr 4;have fr5:=fr 5;have fr6:=fr 6;have fr7:=fr 7;have fr8:=fr 8;have fr9:=fr 9;have fr10:=fr 10;have HO:=hide (own8.boxed11 st8.res (.int .i64 B.id) (.string B.name) (.slice a n c) (.slice fa2 fn2 fc2) (.slice ra rn rc) (.slice oa on oc) (.int .i64 B.ticks) (.int .i64 B.parse) (.int .i64 B.word) (.int .i64 B.drops) (.int .i64 V));have HB:=hide (zag st8.below st8.hR (.int .i64 B.id) (.string B.name) (.slice a n c) (.slice fa2 fn2 fc2) (.slice ra rn rc) (.slice oa on oc) (.int .i64 B.ticks) (.int .i64 B.parse) (.int .i64 B.word) (.int .i64 B.drops) (.int .i64 V));clear st8 own8 fr;go_wp2;exact bodyPost_ret (v:=.agg #[.int .i64 B.id,.string B.name,.slice a n c,.slice fa2 fn2 fc2,.slice ra rn rc,.slice oa on oc,.int .i64 B.ticks,.int .i64 B.parse,.int .i64 B.word,.int .i64 B.drops,.int .i64 V]) (by simp [results,Tryz.results162,go_sem, *]) rfl ⟨fa2,fn2,fc2,(by rw [HV.out]),(by rw [HT.out]; exact ⟨HO.out.ports,HO.out.f,HO.out.v⟩),HB.out⟩

theorem zey (N:NV) (k i:Nat) (x:LK) (y:BV) (w:World) (h:zae w N) (hx:N.ls[k]?=some x) (hy0:N.bs[i]?=some y) (hi:x.a=(i:Int)) :
  Calls Tryz.prog 56 #[.agg #[.slice N.ba N.bn N.bc,.slice N.la N.ln N.lc,.slice N.sa N.sn N.sc],.int .i64 (k:Int),.bool false] w fun e w'=>e=.returned (.agg #[.int .i64 (sayV y.B.id y.B.ports x.p).r,.int .i64 (sayV y.B.id y.B.ports x.p).c,.int .i64 (sayV y.B.id y.B.ports x.p).h,.int .i64 (sayV y.B.id y.B.ports x.p).b,.int .i64 (sayV y.B.id y.B.ports x.p).p])∧Below w.heap.size w w':=by
 have hk:k < N.ln:=by have:=(List.getElem?_eq_some_iff.1 hx).1; have:=h.l.size; omega
 have hib:i < N.bn:=by have:=(List.getElem?_eq_some_iff.1 hy0).1; have:=h.b.size; omega
 generalize hw1:w.alloc (Obj.cells #[.slice N.ba N.bn N.bc,.slice N.la N.ln N.lc,.slice N.sa N.sn N.sc] 34)=w1;generalize hw2:w1.alloc (Obj.cells #[.int .i64 0,.int .i64 0,.int .i64 0,.int .i64 0,.int .i64 0] 101)=w2;have b01:=zb hw1;have b12:=zb hw2;have b02:=zc b01 b12;have kP:=za (zk hw1) b12;have kJ:=zk hw2;have HZ1:Hid (w1.heap.size=w.heap.size+1):=hide (by rw [← hw1]; simp);have HZ2:Hid (w2.heap.size=w.heap.size+2):=hide (by rw [← hw2,← hw1]; simp);obtain ⟨x',lb,lo,hx',hla,a0,a1,a2,a3⟩:=zaw (h.l.below b02) k hk;rw [hx] at hx';cases hx';obtain ⟨y',bb,off,hy',hba,-⟩:=br_at h.b i hib;rw [hy0] at hy';cases hy';have hy:=h.item y (List.mem_of_getElem? hy0);have hG:GRow brF w (some ⟨bb,off,none⟩) N.bn N.bc N.bs:=by rw [← hba]; exact h.b
 have HBC:Hid (∀W,Below w.heap.size w W→W.cell? ⟨bb,off+i*11,none⟩=some (.int .i64 y.B.id)∧W.cell? ⟨bb,off+i*11+2,none⟩=some (.slice y.a y.n y.c)):=hide (fun W hW=>by have:=zO hG hW hy0; exact ⟨this.1,this.2.2.1⟩);have HBA:=hide hba;obtain ⟨x0,x1,x2⟩:=zd kP;rw [hla] at x1;have i1:(0:Int)≤(k:Int):=by omega
 have i2:(k:Int) < (N.ln:Int):=by omega
 have i3:(0:Int)≤(i:Int):=by omega
 have i4:(i:Int) < (N.bn:Int):=by omega
 clear hla hba hx hy0 hG;go_enter Tryz.func56,Tryz.ntmps56;obtain ⟨xa,xp,xb,xq⟩:=x;dsimp only at hi a0 a1 a2 a3 ⊢;subst hi;go_upto_region 4 with fail
 generalize hw3:w2.alloc (Obj.cells #[.int .i64 (i:Int),.int .i64 xp,.int .i64 xb,.int .i64 xq] 98)=w3;have b23:=zb hw3;have kL:=zk hw3;have kP:=za kP b23;have kJ:=za kJ b23;have b3:=zc b02 b23;have vv:Below w3.heap.size w3 w3.drew:=zp (Below.refl _ _);clear hw3 b23 x0 x1 x2 a0 a1 a2 a3;refine wp_region_held_drew (S:=(fun W=>(W.cell? ⟨w.heap.size,0,none⟩=some (.slice (some ⟨bb,off,none⟩) N.bn N.bc)∧W.cell? ⟨w.heap.size,1,none⟩=some (.slice N.la N.ln N.lc)∧W.cell? ⟨w.heap.size,2,none⟩=some (.slice N.sa N.sn N.sc))∧(W.cell? ⟨w2.heap.size,0,none⟩=some (.int .i64 (i:Int))∧W.cell? ⟨w2.heap.size,1,none⟩=some (.int .i64 xp)∧W.cell? ⟨w2.heap.size,2,none⟩=some (.int .i64 xb)∧W.cell? ⟨w2.heap.size,3,none⟩=some (.int .i64 xq))∧(W.cell? ⟨bb,off+i*11,none⟩=some (.int .i64 y.B.id)∧W.cell? ⟨bb,off+i*11+2,none⟩=some (.slice y.a y.n y.c)))) (by kernel_rfl) (⟨by have:=zd (za kP vv); rw [HBA.out] at this; exact this,zM (za kL vv),(HBC.out _ (zc b3 vv)).1,(HBC.out _ (zc b3 vv)).2⟩) (fun hHeld => ?_);refine kK 0 ⟨some 31,.fieldAddr 34 (.tmp 3) 0,0,"l14_step.go:11",#[],none⟩ ?_;refine kK 1 ⟨some 32,.load 30 (.tmp 31),30,"l14_step.go:11",#[⟨0,.data⟩],none⟩ ?_;refine kK 2 ⟨some 33,.fieldAddr 98 (.tmp 7) 0,0,"l14_step.go:11",#[],none⟩ ?_;refine kK 3 ⟨some 34,.load 3 (.tmp 33),3,"l14_step.go:11",#[⟨2,.data⟩],none⟩ ?_;refine kK 4 ⟨some 35,.indexAddr 30 (.tmp 32) (.tmp 34),0,"l14_step.go:11",#[⟨1,.data⟩,⟨3,.data⟩],none⟩ ?_;refine kK 5 ⟨some 36,.fieldAddr 64 (.tmp 35) 0,0,"l14_step.go:11",#[⟨4,.data⟩],none⟩ ?_;refine kK 6 ⟨some 37,.load 3 (.tmp 36),3,"l14_step.go:11",#[⟨5,.data⟩],none⟩ ?_;refine kK 7 ⟨some 38,.fieldAddr 34 (.tmp 3) 0,0,"l14_step.go:11",#[],none⟩ ?_;refine kK 8 ⟨some 39,.load 30 (.tmp 38),30,"l14_step.go:11",#[⟨7,.data⟩],none⟩ ?_;refine kK 9 ⟨some 40,.fieldAddr 98 (.tmp 7) 0,0,"l14_step.go:11",#[],none⟩ ?_;refine kK 10 ⟨some 41,.load 3 (.tmp 40),3,"l14_step.go:11",#[⟨9,.data⟩],none⟩ ?_;refine kK 11 ⟨some 42,.indexAddr 30 (.tmp 39) (.tmp 41),0,"l14_step.go:11",#[⟨8,.data⟩,⟨10,.data⟩],none⟩ ?_;refine kK 12 ⟨some 43,.fieldAddr 64 (.tmp 42) 2,0,"l14_step.go:11",#[⟨11,.data⟩],none⟩ ?_;refine kK 13 ⟨some 44,.load 57 (.tmp 43),57,"l14_step.go:11",#[⟨12,.data⟩],none⟩ ?_;refine kK 14 ⟨some 45,.fieldAddr 98 (.tmp 7) 1,0,"l14_step.go:11",#[],none⟩ ?_;refine kK 15 ⟨some 46,.load 3 (.tmp 45),3,"l14_step.go:11",#[⟨14,.data⟩],none⟩ ?_;refine kR 16 ⟨some 47,.call ⟨.value (.func 105),#[.tmp 37,.tmp 44,.tmp 46],#[3,57,3]⟩,101,"l14_step.go:11",#[⟨6,.data⟩,⟨13,.data⟩,⟨15,.data⟩],none⟩ (fun K hK => ?_);go_simp;refine (zbz y.B.id y.a y.n y.c y.B.ports xp _ (hy.ports.below (zc b3 vv))).mono ?_;rintro e wz ⟨rfl,hbz⟩;have vv:=zc vv hbz;generalize hSV:sayV y.B.id y.B.ports xp=SV at *;go_wp2_with fail
 refine hK.out _ _ (⟨by have:=zd (za kP vv); rw [HBA.out] at this; exact this,zM (za kL vv),(HBC.out _ (zc b3 vv)).1,(HBC.out _ (zc b3 vv)).2⟩) (fun hHeld => ?_);clear hK K
 try simp only [Act.put,lA,lB,lC]
 refine kR 17 ⟨none,.store 101 (.tmp 6) (.tmp 47),0,"l14_step.go:11",#[⟨16,.data⟩,⟨16,.chain⟩,⟨0,.phase⟩,⟨1,.phase⟩,⟨2,.phase⟩,⟨3,.phase⟩,⟨4,.phase⟩,⟨5,.phase⟩,⟨6,.phase⟩,⟨7,.phase⟩,⟨8,.phase⟩,⟨9,.phase⟩,⟨10,.phase⟩,⟨11,.phase⟩,⟨12,.phase⟩,⟨13,.phase⟩,⟨14,.phase⟩,⟨15,.phase⟩,⟨16,.phase⟩],none⟩ (fun K hK => ?_);obtain ⟨xx0,xx1,xx2,xx3,xx4⟩:=(zC (za kJ vv)).1;have ff:=zf (za kJ vv);have ff0:=ff 0;have ff1:=ff 1;have ff2:=ff 2;have ff3:=ff 3;have ff4:=ff 4;clear ff;go_simp;refine zgw (K:=K _) (za kJ vv) _ _ _ _ _ (fun wq kQ hgq => ?_);have vq:=(zc b3 vv).grown hgq (zc b3 vv).size (by intro j e; cases e; have:=HZ1.out; omega);have kPq:=ze (za kP vv) hgq (by intro j e; cases e; have:=HZ1.out; omega);have kLq:=ze (za kL vv) hgq (by intro j e; cases e; have:=HZ1.out; have:=HZ2.out; omega);refine hK.out _ _ (⟨by have:=zd kPq; rw [HBA.out] at this; exact this,zM kLq,(HBC.out _ vq).1,(HBC.out _ vq).2⟩) (fun hHeld => ?_);clear hK K
 try simp only [Act.put,lA,lB,lC]
 refine wpAnyH_done (by kernel_rfl) ?_ _;have HB:=hide vq;have HQ:=hide kQ;obtain ⟨⟨r0,r1,r2,r3,r4⟩,-⟩:=zC kQ;clear hHeld kPq kLq vq kQ hgq;go_wp2;exact bodyPost_ret (v:=.agg #[.int .i64 SV.r,.int .i64 SV.c,.int .i64 SV.h,.int .i64 SV.b,.int .i64 SV.p]) (by simp [results,Tryz.results56,go_sem, *]) rfl ⟨by rw [hSV],HB.out⟩

theorem zdC (N:NV) (k i:Nat) (x:LK) (y:BV) (w:World) (h:zae w N) (hx:N.ls[k]?=some x) (hy0:N.bs[i]?=some y) (hi:x.b=(i:Int)) :
  Calls Tryz.prog 56 #[.agg #[.slice N.ba N.bn N.bc,.slice N.la N.ln N.lc,.slice N.sa N.sn N.sc],.int .i64 (k:Int),.bool true] w fun e w'=>e=.returned (.agg #[.int .i64 (sayV y.B.id y.B.ports x.q).r,.int .i64 (sayV y.B.id y.B.ports x.q).c,.int .i64 (sayV y.B.id y.B.ports x.q).h,.int .i64 (sayV y.B.id y.B.ports x.q).b,.int .i64 (sayV y.B.id y.B.ports x.q).p])∧Below w.heap.size w w':=by
 have hk:k < N.ln:=by have:=(List.getElem?_eq_some_iff.1 hx).1; have:=h.l.size; omega
 have hib:i < N.bn:=by have:=(List.getElem?_eq_some_iff.1 hy0).1; have:=h.b.size; omega
 generalize hw1:w.alloc (Obj.cells #[.slice N.ba N.bn N.bc,.slice N.la N.ln N.lc,.slice N.sa N.sn N.sc] 34)=w1;generalize hw2:w1.alloc (Obj.cells #[.int .i64 0,.int .i64 0,.int .i64 0,.int .i64 0,.int .i64 0] 101)=w2;have b01:=zb hw1;have b12:=zb hw2;have b02:=zc b01 b12;have kP:=za (zk hw1) b12;have kJ:=zk hw2;have HZ1:Hid (w1.heap.size=w.heap.size+1):=hide (by rw [← hw1]; simp);have HZ2:Hid (w2.heap.size=w.heap.size+2):=hide (by rw [← hw2,← hw1]; simp);obtain ⟨x',lb,lo,hx',hla,a0,a1,a2,a3⟩:=zaw (h.l.below b02) k hk;rw [hx] at hx';cases hx';obtain ⟨y',bb,off,hy',hba,-⟩:=br_at h.b i hib;rw [hy0] at hy';cases hy';have hy:=h.item y (List.mem_of_getElem? hy0);have hG:GRow brF w (some ⟨bb,off,none⟩) N.bn N.bc N.bs:=by rw [← hba]; exact h.b
 have HBC:Hid (∀W,Below w.heap.size w W→W.cell? ⟨bb,off+i*11,none⟩=some (.int .i64 y.B.id)∧W.cell? ⟨bb,off+i*11+2,none⟩=some (.slice y.a y.n y.c)):=hide (fun W hW=>by have:=zO hG hW hy0; exact ⟨this.1,this.2.2.1⟩);have HBA:=hide hba;obtain ⟨x0,x1,x2⟩:=zd kP;rw [hla] at x1;have i1:(0:Int)≤(k:Int):=by omega
 have i2:(k:Int) < (N.ln:Int):=by omega
 have i3:(0:Int)≤(i:Int):=by omega
 have i4:(i:Int) < (N.bn:Int):=by omega
 clear hla hba hx hy0 hG;go_enter Tryz.func56,Tryz.ntmps56;obtain ⟨xa,xp,xb,xq⟩:=x;dsimp only at hi a0 a1 a2 a3 ⊢;subst hi;go_upto_region 3 with fail
 generalize hw3:w2.alloc (Obj.cells #[.int .i64 xa,.int .i64 xp,.int .i64 (i:Int),.int .i64 xq] 98)=w3;have b23:=zb hw3;have kL:=zk hw3;have kP:=za kP b23;have kJ:=za kJ b23;have b3:=zc b02 b23;have vv:Below w3.heap.size w3 w3.drew:=zp (Below.refl _ _);clear hw3 b23 x0 x1 x2 a0 a1 a2 a3;refine wp_region_held_drew (S:=(fun W=>(W.cell? ⟨w.heap.size,0,none⟩=some (.slice (some ⟨bb,off,none⟩) N.bn N.bc)∧W.cell? ⟨w.heap.size,1,none⟩=some (.slice N.la N.ln N.lc)∧W.cell? ⟨w.heap.size,2,none⟩=some (.slice N.sa N.sn N.sc))∧(W.cell? ⟨w2.heap.size,0,none⟩=some (.int .i64 xa)∧W.cell? ⟨w2.heap.size,1,none⟩=some (.int .i64 xp)∧W.cell? ⟨w2.heap.size,2,none⟩=some (.int .i64 (i:Int))∧W.cell? ⟨w2.heap.size,3,none⟩=some (.int .i64 xq))∧(W.cell? ⟨bb,off+i*11,none⟩=some (.int .i64 y.B.id)∧W.cell? ⟨bb,off+i*11+2,none⟩=some (.slice y.a y.n y.c)))) (by kernel_rfl) (⟨by have:=zd (za kP vv); rw [HBA.out] at this; exact this,zM (za kL vv),(HBC.out _ (zc b3 vv)).1,(HBC.out _ (zc b3 vv)).2⟩) (fun hHeld => ?_);refine kK 0 ⟨some 14,.fieldAddr 34 (.tmp 3) 0,0,"l14_step.go:9",#[],none⟩ ?_;refine kK 1 ⟨some 15,.load 30 (.tmp 14),30,"l14_step.go:9",#[⟨0,.data⟩],none⟩ ?_;refine kK 2 ⟨some 16,.fieldAddr 98 (.tmp 7) 2,0,"l14_step.go:9",#[],none⟩ ?_;refine kK 3 ⟨some 17,.load 3 (.tmp 16),3,"l14_step.go:9",#[⟨2,.data⟩],none⟩ ?_;refine kK 4 ⟨some 18,.indexAddr 30 (.tmp 15) (.tmp 17),0,"l14_step.go:9",#[⟨1,.data⟩,⟨3,.data⟩],none⟩ ?_;refine kK 5 ⟨some 19,.fieldAddr 64 (.tmp 18) 0,0,"l14_step.go:9",#[⟨4,.data⟩],none⟩ ?_;refine kK 6 ⟨some 20,.load 3 (.tmp 19),3,"l14_step.go:9",#[⟨5,.data⟩],none⟩ ?_;refine kK 7 ⟨some 21,.fieldAddr 34 (.tmp 3) 0,0,"l14_step.go:9",#[],none⟩ ?_;refine kK 8 ⟨some 22,.load 30 (.tmp 21),30,"l14_step.go:9",#[⟨7,.data⟩],none⟩ ?_;refine kK 9 ⟨some 23,.fieldAddr 98 (.tmp 7) 2,0,"l14_step.go:9",#[],none⟩ ?_;refine kK 10 ⟨some 24,.load 3 (.tmp 23),3,"l14_step.go:9",#[⟨9,.data⟩],none⟩ ?_;refine kK 11 ⟨some 25,.indexAddr 30 (.tmp 22) (.tmp 24),0,"l14_step.go:9",#[⟨8,.data⟩,⟨10,.data⟩],none⟩ ?_;refine kK 12 ⟨some 26,.fieldAddr 64 (.tmp 25) 2,0,"l14_step.go:9",#[⟨11,.data⟩],none⟩ ?_;refine kK 13 ⟨some 27,.load 57 (.tmp 26),57,"l14_step.go:9",#[⟨12,.data⟩],none⟩ ?_;refine kK 14 ⟨some 28,.fieldAddr 98 (.tmp 7) 3,0,"l14_step.go:9",#[],none⟩ ?_;refine kK 15 ⟨some 29,.load 3 (.tmp 28),3,"l14_step.go:9",#[⟨14,.data⟩],none⟩ ?_;refine kR 16 ⟨some 30,.call ⟨.value (.func 105),#[.tmp 20,.tmp 27,.tmp 29],#[3,57,3]⟩,101,"l14_step.go:9",#[⟨6,.data⟩,⟨13,.data⟩,⟨15,.data⟩],none⟩ (fun K hK => ?_);go_simp;refine (zbz y.B.id y.a y.n y.c y.B.ports xq _ (hy.ports.below (zc b3 vv))).mono ?_;rintro e wz ⟨rfl,hbz⟩;have vv:=zc vv hbz;generalize hSV:sayV y.B.id y.B.ports xq=SV at *;go_wp2_with fail
 refine hK.out _ _ (⟨by have:=zd (za kP vv); rw [HBA.out] at this; exact this,zM (za kL vv),(HBC.out _ (zc b3 vv)).1,(HBC.out _ (zc b3 vv)).2⟩) (fun hHeld => ?_);clear hK K
 try simp only [Act.put,lA,lB,lC]
 refine kR 17 ⟨none,.store 101 (.tmp 6) (.tmp 30),0,"l14_step.go:9",#[⟨16,.data⟩,⟨16,.chain⟩,⟨0,.phase⟩,⟨1,.phase⟩,⟨2,.phase⟩,⟨3,.phase⟩,⟨4,.phase⟩,⟨5,.phase⟩,⟨6,.phase⟩,⟨7,.phase⟩,⟨8,.phase⟩,⟨9,.phase⟩,⟨10,.phase⟩,⟨11,.phase⟩,⟨12,.phase⟩,⟨13,.phase⟩,⟨14,.phase⟩,⟨15,.phase⟩,⟨16,.phase⟩],none⟩ (fun K hK => ?_);obtain ⟨xx0,xx1,xx2,xx3,xx4⟩:=(zC (za kJ vv)).1;have ff:=zf (za kJ vv);have ff0:=ff 0;have ff1:=ff 1;have ff2:=ff 2;have ff3:=ff 3;have ff4:=ff 4;clear ff;go_simp;refine zgw (K:=K _) (za kJ vv) _ _ _ _ _ (fun wq kQ hgq => ?_);have vq:=(zc b3 vv).grown hgq (zc b3 vv).size (by intro j e; cases e; have:=HZ1.out; omega);have kPq:=ze (za kP vv) hgq (by intro j e; cases e; have:=HZ1.out; omega);have kLq:=ze (za kL vv) hgq (by intro j e; cases e; have:=HZ1.out; have:=HZ2.out; omega);refine hK.out _ _ (⟨by have:=zd kPq; rw [HBA.out] at this; exact this,zM kLq,(HBC.out _ vq).1,(HBC.out _ vq).2⟩) (fun hHeld => ?_);clear hK K
 try simp only [Act.put,lA,lB,lC]
 refine wpAnyH_done (by kernel_rfl) ?_ _;have HB:=hide vq;have HQ:=hide kQ;obtain ⟨⟨r0,r1,r2,r3,r4⟩,-⟩:=zC kQ;clear hHeld kPq kLq vq kQ hgq;go_wp2;exact bodyPost_ret (v:=.agg #[.int .i64 SV.r,.int .i64 SV.c,.int .i64 SV.h,.int .i64 SV.b,.int .i64 SV.p]) (by simp [results,Tryz.results56,go_sem, *]) rfl ⟨by rw [hSV],HB.out⟩

end Go.Proofs.YtpaneiaflfegoaaGreat
