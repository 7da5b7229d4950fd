/-
  Packed: DrawNt6 DrawNt7 StepIn StepDeed StepDelS.
-/
import Derived.Test.YtkoekkjfcaiagaaGreatPSKW
import Derived.Test.YtkoekkjfcaiagaaGreatPSK01
import Derived.Test.YtkoekkjfcaiagaaGreatPSK06
import Derived.Test.YtkoekkjfcaiagaaGreatPSK10
import Derived.Test.YtkoekkjfcaiagaaGreatPSK15
import Derived.Test.YtkoekkjfcaiagaaGreatPSK31
import Derived.Test.YtkoekkjfcaiagaaGreatPSK32
import Derived.Test.YtkoekkjfcaiagaaGreatPSStepStepS
import Derived.Deep.Cut
import Derived.Laws.EntriesVeiled
import Derived.Laws.OwnMore
namespace Go.Proofs.YtkoekkjfcaiagaaGreat
set_option maxRecDepth 100000
set_option maxHeartbeats 16000000
open Go.RowKit

section
open Go.RowKit

abbrev q395:Oper:=⟨some 65,.load 31 (.tmp 7),31,"l13_net.go:154",#[],none⟩
abbrev q396:Oper:=⟨some 67,.load 31 (.tmp 7),31,"l13_net.go:154",#[],none⟩
abbrev q397:Oper:=⟨some 68,.call ⟨.value (.func 72),#[.tmp 66,.tmp 67],#[70,31]⟩,51,"l13_net.go:154",#[⟨1,.data⟩,⟨2,.data⟩],none⟩
abbrev q398:Oper:=⟨some 69,.call ⟨.value (.func 23),#[.tmp 65,.tmp 68],#[31,51]⟩,48,"l13_net.go:154",#[⟨0,.data⟩,⟨3,.data⟩,⟨3,.chain⟩],none⟩
abbrev q399:Oper:=⟨some 64,.move (.tmp 69),48,"l13_net.go:154",#[⟨4,.data⟩],none⟩
abbrev q400:Oper:=⟨some 70,.extract (.tmp 64) 0,31,"l13_net.go:154",#[⟨5,.data⟩],none⟩
abbrev q401:Oper:=⟨some 71,.extract (.tmp 64) 1,4,"l13_net.go:154",#[⟨5,.data⟩,{ on:=8,ground:=Ground.gcOnly Departure.lateStores }],none⟩
abbrev q402:Oper:=⟨none,.store 31 (.tmp 7) (.tmp 70),0,"l13_net.go:154",#[⟨6,.data⟩,⟨4,.chain⟩,⟨0,.phase⟩,⟨1,.phase⟩,⟨2,.phase⟩,⟨3,.phase⟩,⟨4,.phase⟩,⟨5,.phase⟩,⟨6,.phase⟩,{ on:=7,ground:=Ground.textOnly Departure.lateStores }],none⟩

theorem zf5 {B:BR} (h:zx B=true):∀x∈B.f,x.Rng:=fun x hx=>by
 have hf:=(zae h).2.2.2.2.1;exact zig ((((zb3 B.f).1 hf).1).1 x hx)

theorem zjA {w:World} {base g n cap k:Nat} {e:TypeId} {xs:List Value} (h:w.ownsRow base e k (.slice (some ⟨g,0,none⟩) n cap) n xs) (j:Nat):w.frozen? ⟨g,j,none⟩=false:=by
 obtain ⟨-,⟨h,-⟩ | ⟨g',cap',cur,h,-,hh,-⟩⟩:=h
 ·cases h
 ·cases h;exact zf hh j

theorem zks (s:Int) (n:Nat):I64s (idsTo s n):=by
 intro z hz;obtain ⟨i,hi,rfl⟩:=List.mem_iff_getElem.1 hz;rw [zbM] at hi
 have:=zis s n i hi
 rw [List.getElem?_eq_getElem (by rw [zbM]; exact hi)] at this;rw [Option.some.inj this];omega

theorem NOwn.goes {w w':World} {base:Nat} {M:NV} (h:NOwn w base M) {C:Nat} (hg:w.grownBy w' (some C)) (hC:C < base):NOwn w' base M:=by
 have ho:Only [C] w w':=⟨hg.os,hg.tape,hg.output,hg.size,fun k hk hn=>hg.block k hk (fun e=>hn (by cases e; simp))⟩;exact ⟨h.b.only ho (fun b hb hc=>by have:=(h.b.blk b hb).1; simp at hc; omega),zG h.l hg (fun b hb=>by cases hb; exact hC),zG h.s hg (fun b hb=>by cases hb; exact hC)⟩

structure DnSt (w wr:World) (C:Nat) (a0:Option Addr) (l0 c0:Nat) (z0:List Int) (X:Nat) (N:NV):Prop where
 res:wr.heap[w.heap.size]?=some (.cells #[.slice none 0 0,.slice none 0 0,.slice none 0 0] 31)
 box:wr.heap[X]?=some (.cells #[.slice N.ba N.bn N.bc,.slice N.la N.ln N.lc,.slice N.sa N.sn N.sc] 31)
 own:NOwn wr (w.heap.size+1) N
 went:Went w wr C a0 l0 c0 z0
 lt:C < w.heap.size
 xl:w.heap.size < X

section
variable {w wr w':World} {C:Nat} {a0:Option Addr} {l0 c0:Nat} {z0:List Int} {X:Nat} {N:NV}
theorem DnSt.base (h:DnSt w wr C a0 l0 c0 z0 X N):w.heap.size+1≤wr.heap.size:=Nat.succ_le_of_lt (Array.getElem?_eq_some_iff.1 h.res).1
theorem DnSt.later (h:DnSt w wr C a0 l0 c0 z0 X N) (hb:Below wr.heap.size wr w'):DnSt w w' C a0 l0 c0 z0 X N:=⟨za h.res hb,za h.box hb,h.own.below hb,h.went.made hb,h.lt,h.xl⟩
theorem DnSt.goes (h:DnSt w wr C a0 l0 c0 z0 X N) (wt:Went wr w' C a0 l0 c0 z0):DnSt w w' C a0 l0 c0 z0 X N :=
 ⟨ze h.res wt.grown (fun j e=>by cases e; exact Nat.ne_of_lt h.lt),ze h.box wt.grown (fun j e=>by cases e; exact Nat.ne_of_lt (Nat.lt_trans h.lt h.xl)),h.own.goes wt.grown (Nat.lt_succ_of_lt h.lt),h.went.trans wt,h.lt,h.xl⟩
theorem DnSt.turned (h:DnSt w wr C a0 l0 c0 z0 X N) {M:NV} (oM:NOwn wr (w.heap.size+1) M) (kQ:w'.heap[X]?=some (.cells #[.slice M.ba M.bn M.bc,.slice M.la M.ln M.lc,.slice M.sa M.sn M.sc] 31)) (gQ:wr.grownBy w' (some X)):DnSt w w' C a0 l0 c0 z0 X M :=
 ⟨ze h.res gQ (fun j e=>by cases e; exact Nat.ne_of_gt h.xl),kQ,oM.boxed h.box gQ,h.went.madeAt ((Below.refl w.heap.size wr).grown gQ (Nat.le_of_succ_le h.base) (fun k e=>by cases e; exact Nat.le_of_lt h.xl)) h.lt (Nat.le_refl _),h.lt,h.xl⟩
theorem DnSt.ports (h:DnSt w wr C a0 l0 c0 z0 X N) {i:Nat} {y:BV} (hy:N.bs[i]?=some y) (hn:0 < y.n):∃g,y.a=some ⟨g,0,none⟩∧w.heap.size+1≤g∧wr.ownsRow (w.heap.size+1) 67 8 (.slice (some ⟨g,0,none⟩) y.n y.c) y.n (ptF.all y.B.ports):=by
 have hO:=(h.own.b.item y (List.mem_of_getElem? hy)).ports;obtain ⟨g,hg,hb,-⟩:=zil (F:=ptF) hO hn;exact ⟨g,hg,hb,by rw [← hg]; exact hO⟩
theorem DnSt.cost (h:DnSt w wr C a0 l0 c0 z0 X N) {i p:Nat} {y:BV} {x:PT} (hy:N.bs[i]?=some y) (hx:y.B.ports[p]?=some x) (hn:0 < y.n) {g:Nat} (hg:y.a=some ⟨g,0,none⟩) (k:Int):DnSt w (wr.setCell ⟨g,p*8+1,none⟩ (.int .i64 k)) C a0 l0 c0 z0 X { N with bs:=N.bs.set i { y with B:=costB y.B p x k } }:=by
 obtain ⟨g',hg',hb,hP⟩:=h.ports hy hn;rw [hg] at hg';cases hg';have hgs:wr.grownBy (wr.setCell ⟨g,p*8+1,none⟩ (.int .i64 k)) (some g):=zn _ _;exact ⟨ze h.res hgs (fun j e=>by cases e; omega),ze h.box hgs (fun j e=>by cases e; exact zz hP h.box (by decide) _ rfl),h.own.cost hy hx hg k,h.went.madeAt ((Below.refl w.heap.size wr).grown hgs (Nat.le_of_succ_le h.base) (fun k e=>by cases e; omega)) h.lt (Nat.le_refl _),h.lt,h.xl⟩
theorem zcq (h:DnSt w wr C a0 l0 c0 z0 X N) {i:Nat} {y:BV} (hy:N.bs[i]?=some y) {b off g:Nat} (hba:N.ba=some ⟨b,off,none⟩) (hga:y.a=some ⟨g,0,none⟩):wr.cell? ⟨X,0,none⟩=some (.slice (some ⟨b,off,none⟩) N.bn N.bc)∧wr.cell? ⟨b,off+i*11+2,none⟩=some (.slice (some ⟨g,0,none⟩) y.n y.c):=by
 obtain ⟨x0,-,-⟩:=zd h.box;rw [hba] at x0;obtain ⟨y',b',off',hy',ha',-,-,c2,-⟩:=br_at h.own.b.grow i (by have:=(List.getElem?_eq_some_iff.1 hy).1; have:=h.own.b.grow.size; omega);rw [hy] at hy';cases hy';rw [hba] at ha';cases ha';rw [hga] at c2;exact ⟨x0,c2⟩
end

theorem zfv {w:World} {N:NV} (h:zax w N) (ho:NetOk N.brs N.ls N.ss):N.bn≤6∧N.ln≤9∧N.sn≤40∧1≤N.bn:=by
 have h1:=ho.1.2.2;have h2:=ho.2.1.1;have h3:=ho.2.2.2.1;rw [zc3] at h1;have e1:=h.b.size;have e2:=h.l.size;have e3:=h.s.size;omega
theorem zjv {w:World} {base:Nat} {N:NV} (h:NOwn w base N) (ho:NetOk N.brs N.ls N.ss) {i:Nat} {y:BV} (hy:N.bs[i]?=some y):y.n=y.B.ports.length∧1≤y.n∧y.n≤6:=by
 have h1:=(zB (F:=ptF) (h.b.item y (List.mem_of_getElem? hy)).ports).size;have h2:=(zae (ho.1.1 y.B (List.mem_of_getElem? (zea hy)))).2.2.2.1;unfold in3 at h2
 simp at h2
 omega

theorem zgN (C:Nat) (a0:Option Addr) (l0 c0:Nat) (z0:List Int) (most:Nat) (w:World) (hc:Cur w C a0 l0 c0 z0) (hmost:most≤900) :
  Calls Tryz.prog 63 #[.pointer (some ⟨C,0,none⟩),.int .i64 most] w fun e w'=>∃N:NV,e=.returned (.agg #[.slice N.ba N.bn N.bc,.slice N.la N.ln N.lc,.slice N.sa N.sn N.sc])∧NOwn w' (w.heap.size+1) N∧NetOk N.brs N.ls N.ss∧Went w w' C a0 l0 c0 z0:=by
 have hlt:=hc.lt;generalize hw0:w.alloc (Obj.cells #[.slice none 0 0,.slice none 0 0,.slice none 0 0] 31)=w0;have b0:=zb hw0;have k0:=zk hw0;have HZ0:Hid (w0.heap.size=w.heap.size+1):=hide (by rw [← hw0]; simp);have wn:=Went.start hc b0;have HCN:Hid (C≠w.heap.size):=hide (by omega);go_enter Tryz.func63,Tryz.ntmps63;go_wp2_with fail
 refine (zal C a0 l0 c0 z0 6 _ wn.cur (by omega)).mono ?_;rintro e w1 ⟨kx,rfl,kx0,kx1,-,wt⟩;have kx1:=kx1 (by omega);obtain ⟨nn,hnn⟩:∃nn:Nat,1+kx=(nn:Int):=⟨(1+kx).toNat,by omega⟩;have HN6:Hid (1≤nn∧nn≤6):=hide (by omega);have k0:=ze k0 wt.grown (fun j e=>by cases e; exact HCN.out);have HW1:Hid (w.heap.size+1≤w1.heap.size):=hide (by have:=wt.grown.size; have:=HZ0.out; omega);have wn:=wn.trans wt;clear wt hw0 b0 kx0 kx1;go_wp2_with fail
 try rw [hnn]
 clear hnn;refine (zal C a0 l0 c0 z0 4 _ wn.cur (by omega)).mono ?_;rintro e w2 ⟨px,rfl,px0,px1,-,wt⟩;have px1:=px1 (by omega);obtain ⟨pp,hpp⟩:∃pp:Nat,2+px=(pp:Int):=⟨(2+px).toNat,by omega⟩;have HP6:Hid (1≤pp∧pp≤6):=hide (by omega);have k0:=ze k0 wt.grown (fun j e=>by cases e; exact HCN.out);have HW2:Hid (w.heap.size+1≤w2.heap.size):=hide (by have:=wt.grown.size; have:=HW1.out; omega);have wn:=wn.trans wt;clear wt px0 px1;go_wp2_with fail
 try rw [hpp]
 clear hpp;refine (zhR C a0 l0 c0 z0 nn _ wn.cur (by have:=HN6.out; omega)).mono ?_;rintro e w3 ⟨s,ia,ic,hs0,hs7,rfl,oI,wt⟩;have HS:=hide (And.intro hs0 hs7);have k0:=ze k0 wt.grown (fun j e=>by cases e; exact HCN.out);have HW3:Hid (w.heap.size+1≤w3.heap.size):=hide (by have:=wt.grown.size; have:=HW2.out; omega);have HC2:Hid (C < w2.heap.size):=hide wn.cur.lt;have wn:=wn.trans wt;clear wt hs0 hs7;go_wp2_with fail
 refine (zfX C a0 l0 c0 z0 nn pp _ wn.cur HN6.out.1 (by have:=HN6.out; omega) HP6.out.1 (by have:=HP6.out; omega)).mono ?_;rintro e w4 ⟨la,lc,ls,rfl,hLI,oL,wt⟩;have HOK0:=hide (zje (s:=s) HN6.out HP6.out hLI);have HL9:=hide hLI.len;have k0:=ze k0 wt.grown (fun j e=>by cases e; exact HCN.out);have oI:=zG oI wt.grown (fun b hb=>by cases hb; exact HC2.out);have HW4:Hid (w.heap.size+1≤w4.heap.size):=hide (by have:=wt.grown.size; have:=HW3.out; omega);have wn:=wn.trans wt;clear wt hLI;go_wp2_with fail
 refine (zey ia nn ic (idsTo s nn) (pp:Int) la ls.length lc ls _ (zhh (by rw [← zce]; exact oI) (zks s nn)) (zB (F:=linkF) oL) (by have:=HL9.out; omega) (by have:=HN6.out; omega)).mono ?_;rintro e w5 ⟨N0,rfl,oN,hNI,hb5⟩;obtain ⟨hbrs,hls⟩:=hNI.yes HOK0.out;have HOKN:Hid (NetOk N0.brs N0.ls N0.ss):=hide (by
  have e1:N0.brs=upBs (idsTo s nn) (pp:Int):=hbrs;rw [e1,hls,oN.s.2.2.2];exact (zj7 _ _ _).1 HOK0.out)
 generalize hwX:w5.alloc (Obj.cells #[.slice N0.ba N0.bn N0.bc,.slice N0.la N0.ln N0.lc,.slice N0.sa N0.sn N0.sc] 31)=wX;have bX:=zb hwX;have kX:=zk hwX;have st0:DnSt w wX C a0 l0 c0 z0 w5.heap.size N0:=⟨za (za k0 hb5) bX,kX,(oN.all.lt HW4.out).below bX,(wn.made hb5).made bX,hlt,by have:=hb5.size; have:=HW4.out; omega⟩;clear oN hNI hbrs hls hb5 bX kX k0 oI oL wn HOK0;generalize hXX:w5.heap.size=X at *;go_wp2_with fail
 clear hwX
 go_loopw [8,9] (fun v u9 wr=>∃(i:Nat) (N:NV),v=.int .i64 (i:Int)∧i≤N.bn∧NetOk N.brs N.ls N.ss∧DnSt w wr C a0 l0 c0 z0 X N) (fun v _ _=>7 - (intOf v).toNat)
 case atStart=>exact ⟨0,N0,rfl,Nat.zero_le _,HOKN.out,st0⟩
 case round =>
  clear st0;obtain ⟨i,N,rfl,hi,hok,st⟩:=hrel;have HOK:=hide hok;have HSZ:=hide (zfv st.own.row hok);have hi6:(i:Int)≤6:=by have:=HSZ.out; omega
  clear hok;obtain ⟨x0,x1,x2⟩:=zd st.box;by_cases hib:i < N.bn
  ·have hib':(i:Int) < (N.bn:Int):=by omega
   (go_wp2_with fail)
   go_loopw [9] (fun v wr=>∃(p:Nat) (M:NV),v=.int .i64 (p:Int)∧p≤6∧M.bn=N.bn∧NetOk M.brs M.ls M.ss∧DnSt w wr C a0 l0 c0 z0 X M) (fun v _=>7 - (intOf v).toNat)
   case atStart=>exact ⟨0,N,rfl,Nat.zero_le _,rfl,HOK.out,st⟩
   case round =>
    clear st x0 x1 x2 HOK;obtain ⟨p,N1,rfl,hp6,hbn,hok,st⟩:=hrel;have HOK:=hide hok;have HNB:=hide hbn;have hib1:i < N1.bn:=by omega
    obtain ⟨y,b,off,hy,hba,-,-,c2,-⟩:=br_at st.own.b.grow i hib1;obtain ⟨hyl,hy1,hy6⟩:=zjv st.own hok hy;clear hok hbn;obtain ⟨x0,x1,x2⟩:=zd st.box;rw [hba] at x0;have i1:(0:Int)≤(i:Int):=by omega
    have i2:(i:Int) < (N1.bn:Int):=by omega
    by_cases hp:p < y.n
    ·obtain ⟨x,hx⟩:∃x,y.B.ports[p]?=some x:=⟨_,List.getElem?_eq_getElem (by omega)⟩;obtain ⟨g,hga,-,-⟩:=st.ports hy hy1;rw [hga] at c2;have i3:(0:Int)≤(p:Int):=by omega
     have i4:(p:Int) < (y.n:Int):=by omega
     have vv:Below wr.heap.size wr wr.drew:=zp (Below.refl _ _);(go_upto_region 10 with fail);clear x0 x1 x2 c2;generalize N1=N at *;refine wp_region_held_drew (S:=(fun W=>W.cell? ⟨X,0,none⟩=some (.slice (some ⟨b,off,none⟩) N.bn N.bc)∧W.cell? ⟨b,off+i*11+2,none⟩=some (.slice (some ⟨g,0,none⟩) y.n y.c))) (by kernel_rfl) ((by first | exact zcq st hy hba hga | exact zcq (st.later vv) hy hba hga | exact zcq st2 HY2.out hba hga)) (fun hHeld => ?_);refine kK 0 ⟨some 44,.fieldAddr 31 (.tmp 7) 0,0,"l13_net.go:150",#[],none⟩ ?_;refine kK 1 ⟨some 45,.load 28 (.tmp 44),28,"l13_net.go:150",#[⟨0,.data⟩],none⟩ ?_;refine kK 2 ⟨some 46,.move (.tmp 8),3,"l13_net.go:150",#[],none⟩ ?_;refine kK 3 ⟨some 47,.indexAddr 28 (.tmp 45) (.tmp 46),0,"l13_net.go:150",#[⟨1,.data⟩,⟨2,.data⟩],none⟩ ?_;refine kK 4 ⟨some 48,.fieldAddr 63 (.tmp 47) 2,0,"l13_net.go:150",#[⟨3,.data⟩],none⟩ ?_;refine kK 5 ⟨some 49,.load 57 (.tmp 48),57,"l13_net.go:150",#[⟨4,.data⟩],none⟩ ?_;refine kK 6 ⟨some 50,.move (.tmp 9),3,"l13_net.go:150",#[],none⟩ ?_;refine kK 7 ⟨some 51,.move (.tmp 0),70,"l13_net.go:150",#[],none⟩ ?_;refine kR 8 ⟨some 52,.buildSlice 24 5 #[(0,.const (.int .i64 1)),(1,.const (.int .i64 1)),(2,.const (.int .i64 2)),(3,.const (.int .i64 5)),(4,.const (.int .i64 20))],24,"l13_net.go:150",#[],none⟩ (fun K hK => ?_);go_simp;clear hHeld vv;generalize hwa:wr.alloc (Obj.cells #[.int .i64 1,.int .i64 1,.int .i64 2,.int .i64 5,.int .i64 20] 3)=wa;have ba:=zb hwa;have ka:=zk hwa;have hCa:C < wr.heap.size:=st.went.cur.lt;have vv:Below wa.heap.size wa wa.drew:=zp (Below.refl _ _);have st:=st.later (zc ba vv);have ka:=za ka vv;clear vv ba;generalize wa.drew=wd at *;(go_wp2_with fail);refine hK.out _ _ ((by first | exact zcq st hy hba hga | exact zcq (st.later vv) hy hba hga | exact zcq st2 HY2.out hba hga)) (fun hHeld => ?_);clear hK K;(try simp only [Act.put,lA,lB,lC]);refine kR 9 ⟨some 53,.call ⟨.value (.func 41),#[.tmp 51,.tmp 52],#[70,24]⟩,3,"l13_net.go:150",#[⟨7,.data⟩,⟨8,.data⟩],none⟩ (fun K hK => ?_);go_simp;clear hHeld;refine (zds C a0 l0 c0 z0 [1,1,2,5,20] _ _ _ st.went.cur hCa ka rfl (by simp) (by simp)).mono ?_;rintro e wz ⟨ck,hck,rfl,wt⟩;have HK:Hid (1≤ck∧ck≤1000):=hide (by simp at hck; omega);have st:=st.goes wt;clear wt ka hCa hck;generalize wz=wc2 at *;(go_wp2_with fail);refine hK.out _ _ ((by first | exact zcq st hy hba hga | exact zcq (st.later vv) hy hba hga | exact zcq st2 HY2.out hba hga)) (fun hHeld => ?_);clear hK K;(try simp only [Act.put,lA,lB,lC]);refine kK 10 ⟨some 54,.indexAddr 57 (.tmp 49) (.tmp 50),0,"l13_net.go:150",#[⟨5,.data⟩,⟨6,.data⟩,⟨0,.phase⟩,⟨1,.phase⟩,⟨2,.phase⟩,⟨3,.phase⟩,⟨4,.phase⟩,⟨5,.phase⟩,⟨6,.phase⟩,⟨7,.phase⟩,⟨8,.phase⟩,⟨9,.phase⟩],none⟩ ?_;refine kK 11 ⟨some 55,.fieldAddr 67 (.tmp 54) 1,0,"l13_net.go:150",#[⟨10,.data⟩,⟨0,.phase⟩,⟨1,.phase⟩,⟨2,.phase⟩,⟨3,.phase⟩,⟨4,.phase⟩,⟨5,.phase⟩,⟨6,.phase⟩,⟨7,.phase⟩,⟨8,.phase⟩,⟨9,.phase⟩],none⟩ ?_;refine kR 12 ⟨none,.store 3 (.tmp 55) (.tmp 53),0,"l13_net.go:150",#[⟨11,.data⟩,⟨9,.data⟩,⟨9,.chain⟩,⟨0,.phase⟩,⟨1,.phase⟩,⟨2,.phase⟩,⟨3,.phase⟩,⟨4,.phase⟩,⟨5,.phase⟩,⟨6,.phase⟩,⟨7,.phase⟩,⟨8,.phase⟩,⟨9,.phase⟩],none⟩ (fun K hK => ?_);clear hHeld;obtain ⟨g3,hga3,-,hP3⟩:=st.ports hy hy1;rw [hga] at hga3;cases hga3;obtain ⟨x',b',off',hx',ha',-,q1,-⟩:=pt_at (zB (F:=ptF) hP3) p hp;rw [hx] at hx';cases hx';cases ha';have fz:=zjA hP3 (p*8+1);have HOK2:Hid (NetOk ({ N with bs:=N.bs.set i { y with B:=costB y.B p x ck } }:NV).brs ({ N with bs:=N.bs.set i { y with B:=costB y.B p x ck } }:NV).ls ({ N with bs:=N.bs.set i { y with B:=costB y.B p x ck } }:NV).ss):=hide (by
      show NetOk ((N.bs.set i { y with B:=costB y.B p x ck }).map BV.B) N.ls N.ss
      rw [List.map_set];exact zhK HOK.out (zea hy) hx HK.out)
     have st2:=st.cost hy hx hy1 hga ck;have HY2:Hid ((N.bs.set i { y with B:=costB y.B p x ck })[i]?=some { y with B:=costB y.B p x ck }):=hide (by rw [List.getElem?_set,if_pos rfl,if_pos (List.getElem?_eq_some_iff.1 hy).1]);rw [Nat.zero_add] at q1;clear hP3;go_simp;refine hK.out _ _ ((by first | exact zcq st hy hba hga | exact zcq (st.later vv) hy hba hga | exact zcq st2 HY2.out hba hga)) (fun hHeld => ?_);clear hK K;(try simp only [Act.put,lA,lB,lC]);refine wpAnyH_done (by kernel_rfl) ?_ _;have HST:=hide st2;clear hHeld;go_wp2
     go_roundw
     case rel=>exact ⟨p+1,{ N with bs:=N.bs.set i { y with B:=costB y.B p x ck } },by go_num,by omega,HNB.out,HOK2.out,HST.out⟩
     case measure=>simp [intOf]; omega
    ·have hp':¬(p:Int) < (y.n:Int):=by omega
     have HST:=hide st;clear st;go_wp2
     go_roundw
     case rel=>exact ⟨i+1,N1,by go_num,by omega,HOK.out,HST.out⟩
     case measure=>simp [intOf]; omega
  ·have hib':¬(i:Int) < (N.bn:Int):=by omega
   (go_wp2_with fail);refine (zal C a0 l0 c0 z0 ((most:Int)+1) _ st.went.cur (by omega)).mono ?_;rintro e w6 ⟨mx,rfl,mx0,mx1,-,wt⟩;have mx1:=mx1 (by omega);obtain ⟨m0,rfl⟩:∃m0:Nat,mx=(m0:Int):=⟨mx.toNat,by omega⟩;have HM0:Hid (m0≤1000):=hide (by omega);have st6:=st.goes wt;clear wt st x0 x1 x2 mx0 mx1;(go_wp2_with fail)
   go_loopw [10] (fun v wr=>∃(m:Nat) (M:NV),v=.int .i64 (m:Int)∧m≤1000∧NetOk M.brs M.ls M.ss∧DnSt w wr C a0 l0 c0 z0 X M) (fun v _=>(intOf v).toNat)
   case atStart=>exact ⟨m0,N,rfl,HM0.out,HOK.out,st6⟩
   case round =>
    clear st6 HOK HSZ;obtain ⟨m,N1,rfl,hm,hok,st⟩:=hrel;have HOK:=hide hok;have HMM:=hide hm;have HSZ:=hide (zfv st.own.row hok);clear hok;by_cases hm1:0 < (m:Int)
    ·have vv:Below wr.heap.size wr wr.drew:=zp (Below.refl _ _);obtain ⟨x0,x1,x2⟩:=zd st.box;(go_upto_region 14 with fail);generalize N1=N at *;refine wp_region_held_drew (S:=(fun _=>True)) (by kernel_rfl) (trivial) (fun hHeld => ?_);refine kK 1 ⟨some 66,.move (.tmp 0),70,"l13_net.go:154",#[],none⟩ ?_;refine tR [0,2] ?_;refine AllReadyH.cons (o:=q395) rfl (fun K hK => ?_) ?_
     ·go_simp;refine hK.out _ _ (trivial) (fun hHeld => ?_);clear hK K;(try simp only [Act.put,lA,lB,lC]);refine kR 2 q396 (fun K hK => ?_);go_simp;refine hK.out _ _ (trivial) (fun hHeld => ?_);clear hK K;(try simp only [Act.put,lA,lB,lC]);refine kR 3 q397 (fun K hK => ?_);go_simp;clear hHeld;have st:=st.later vv;clear vv x0 x1 x2;refine (zcz C a0 l0 c0 z0 N _ st.went.cur (by have:=HSZ.out; omega) (by have:=HSZ.out; omega) (by have:=HSZ.out; omega)).mono ?_;rintro e wz ⟨kd,ei,rfl,wt⟩;have st:=st.goes wt;clear wt;generalize wz=wc2 at *;obtain ⟨x0,x1,x2⟩:=zd st.box;(go_wp2_with fail);refine hK.out _ _ (trivial) (fun hHeld => ?_);clear hK K;(try simp only [Act.put,lA,lB,lC]);refine kR 4 q398 (fun K hK => ?_);go_simp;clear hHeld x0 x1 x2;refine (zbq N kd ei _ st.own.row (by have:=HSZ.out; omega) (by have:=HSZ.out; omega) (by have:=HSZ.out; omega) (zbC st.own.row (fun B hB=>ok_sm (HOK.out.1.1 B hB))) (fun B hB=>zf5 (HOK.out.1.1 B hB))).mono ?_;rintro e wz ⟨M,sq,rfl,oM,hst,hbz⟩;have HOK2:Hid (NetOk M.brs M.ls M.ss):=hide (zd1 hst HOK.out);have oM:=oM.lt (st.base);have st:=st.later hbz;clear hbz hst;generalize wz=wc3 at *;(go_wp2_with fail);refine hK.out _ _ (trivial) (fun hHeld => ?_);clear hK K;(try simp only [Act.put,lA,lB,lC]);refine kK 5 q399 ?_;refine kK 6 q400 ?_;refine kK 7 q401 ?_;refine kR 8 q402 (fun K hK => ?_);clear hHeld;obtain ⟨t0,t1,t2⟩:=zd st.box;have f0:=zf st.box 0;have f1:=zf st.box 1;have f2:=zf st.box 2;go_simp;refine zT (K:=K _) st.box _ _ _ (fun wq kQ gQ => ?_);have st2:=st.turned oM kQ gQ;clear t0 t1 t2 f0 f1 f2 kQ gQ oM;refine hK.out _ _ (trivial) (fun hHeld => ?_);clear hK K;(try simp only [Act.put,lA,lB,lC]);refine wpAnyH_done (by kernel_rfl) ?_ _;have HST:=hide st2;have hmb:(m:Int)≤1000:=by have:=HMM.out; omega
      clear hHeld;go_wp2
      go_roundw
      case rel=>exact ⟨m - 1,M,by rw [show ((m - 1:Nat):Int)=(m:Int) - 1 by omega],by omega,HOK2.out,HST.out⟩
      case measure=>simp [intOf]; omega
     refine AllReadyH.cons (o:=q396) rfl (fun K hK => ?_) ?_
     ·go_simp;refine hK.out _ _ (trivial) (fun hHeld => ?_);clear hK K;(try simp only [Act.put,lA,lB,lC]);refine tR [0,3] ?_;refine AllReadyH.cons (o:=q395) rfl (fun K hK => ?_) ?_
      ·go_simp;refine hK.out _ _ (trivial) (fun hHeld => ?_);clear hK K;(try simp only [Act.put,lA,lB,lC]);refine kR 3 q397 (fun K hK => ?_);go_simp;clear hHeld;have st:=st.later vv;clear vv x0 x1 x2;refine (zcz C a0 l0 c0 z0 N _ st.went.cur (by have:=HSZ.out; omega) (by have:=HSZ.out; omega) (by have:=HSZ.out; omega)).mono ?_;rintro e wz ⟨kd,ei,rfl,wt⟩;have st:=st.goes wt;clear wt;generalize wz=wc2 at *;obtain ⟨x0,x1,x2⟩:=zd st.box;(go_wp2_with fail);refine hK.out _ _ (trivial) (fun hHeld => ?_);clear hK K;(try simp only [Act.put,lA,lB,lC]);refine kR 4 q398 (fun K hK => ?_);go_simp;clear hHeld x0 x1 x2;refine (zbq N kd ei _ st.own.row (by have:=HSZ.out; omega) (by have:=HSZ.out; omega) (by have:=HSZ.out; omega) (zbC st.own.row (fun B hB=>ok_sm (HOK.out.1.1 B hB))) (fun B hB=>zf5 (HOK.out.1.1 B hB))).mono ?_;rintro e wz ⟨M,sq,rfl,oM,hst,hbz⟩;have HOK2:Hid (NetOk M.brs M.ls M.ss):=hide (zd1 hst HOK.out);have oM:=oM.lt (st.base);have st:=st.later hbz;clear hbz hst;generalize wz=wc3 at *;(go_wp2_with fail);refine hK.out _ _ (trivial) (fun hHeld => ?_);clear hK K;(try simp only [Act.put,lA,lB,lC]);refine kK 5 q399 ?_;refine kK 6 q400 ?_;refine kK 7 q401 ?_;refine kR 8 q402 (fun K hK => ?_);clear hHeld;obtain ⟨t0,t1,t2⟩:=zd st.box;have f0:=zf st.box 0;have f1:=zf st.box 1;have f2:=zf st.box 2;go_simp;refine zT (K:=K _) st.box _ _ _ (fun wq kQ gQ => ?_);have st2:=st.turned oM kQ gQ;clear t0 t1 t2 f0 f1 f2 kQ gQ oM;refine hK.out _ _ (trivial) (fun hHeld => ?_);clear hK K;(try simp only [Act.put,lA,lB,lC]);refine wpAnyH_done (by kernel_rfl) ?_ _;have HST:=hide st2;have hmb:(m:Int)≤1000:=by have:=HMM.out; omega
       clear hHeld;go_wp2
       go_roundw
       case rel=>exact ⟨m - 1,M,by rw [show ((m - 1:Nat):Int)=(m:Int) - 1 by omega],by omega,HOK2.out,HST.out⟩
       case measure=>simp [intOf]; omega
      refine AllReadyH.cons (o:=q397) rfl (fun K hK => ?_) ?_
      ·go_simp;clear hHeld;have st:=st.later vv;clear vv x0 x1 x2;refine (zcz C a0 l0 c0 z0 N _ st.went.cur (by have:=HSZ.out; omega) (by have:=HSZ.out; omega) (by have:=HSZ.out; omega)).mono ?_;rintro e wz ⟨kd,ei,rfl,wt⟩;have st:=st.goes wt;clear wt;generalize wz=wc2 at *;obtain ⟨x0,x1,x2⟩:=zd st.box;(go_wp2_with fail);refine hK.out _ _ (trivial) (fun hHeld => ?_);clear hK K;(try simp only [Act.put,lA,lB,lC]);refine kR 0 q395 (fun K hK => ?_);go_simp;refine hK.out _ _ (trivial) (fun hHeld => ?_);clear hK K;(try simp only [Act.put,lA,lB,lC]);refine kR 4 q398 (fun K hK => ?_);go_simp;clear hHeld x0 x1 x2;refine (zbq N kd ei _ st.own.row (by have:=HSZ.out; omega) (by have:=HSZ.out; omega) (by have:=HSZ.out; omega) (zbC st.own.row (fun B hB=>ok_sm (HOK.out.1.1 B hB))) (fun B hB=>zf5 (HOK.out.1.1 B hB))).mono ?_;rintro e wz ⟨M,sq,rfl,oM,hst,hbz⟩;have HOK2:Hid (NetOk M.brs M.ls M.ss):=hide (zd1 hst HOK.out);have oM:=oM.lt (st.base);have st:=st.later hbz;clear hbz hst;generalize wz=wc3 at *;(go_wp2_with fail);refine hK.out _ _ (trivial) (fun hHeld => ?_);clear hK K;(try simp only [Act.put,lA,lB,lC]);refine kK 5 q399 ?_;refine kK 6 q400 ?_;refine kK 7 q401 ?_;refine kR 8 q402 (fun K hK => ?_);clear hHeld;obtain ⟨t0,t1,t2⟩:=zd st.box;have f0:=zf st.box 0;have f1:=zf st.box 1;have f2:=zf st.box 2;go_simp;refine zT (K:=K _) st.box _ _ _ (fun wq kQ gQ => ?_);have st2:=st.turned oM kQ gQ;clear t0 t1 t2 f0 f1 f2 kQ gQ oM;refine hK.out _ _ (trivial) (fun hHeld => ?_);clear hK K;(try simp only [Act.put,lA,lB,lC]);refine wpAnyH_done (by kernel_rfl) ?_ _;have HST:=hide st2;have hmb:(m:Int)≤1000:=by have:=HMM.out; omega
       clear hHeld;go_wp2
       go_roundw
       case rel=>exact ⟨m - 1,M,by rw [show ((m - 1:Nat):Int)=(m:Int) - 1 by omega],by omega,HOK2.out,HST.out⟩
       case measure=>simp [intOf]; omega
      exact AllReadyH.nil
     exact AllReadyH.nil
    ·obtain ⟨x0,x1,x2⟩:=zd st.box;obtain ⟨r0,r1,r2⟩:=zd st.res;have f0:=zf st.res 0;have f1:=zf st.res 1;have f2:=zf st.res 2;have hm1':¬0 < (m:Int):=hm1;(go_upto_region 15 with fail);have kQ:=zT (K:=fun V=>V.heap[w.heap.size]?=some (.cells #[.slice N1.ba N1.bn N1.bc,.slice N1.la N1.ln N1.lc,.slice N1.sa N1.sn N1.sc] 31)) st.res (.slice N1.ba N1.bn N1.bc) (.slice N1.la N1.ln N1.lc) (.slice N1.sa N1.sn N1.sc) (fun _ k _=>k);have oQ:=st.own.out st.res;have gQ:=zT (K:=fun V=>wr.grownBy V (some w.heap.size)) st.res (.slice N1.ba N1.bn N1.bc) (.slice N1.la N1.ln N1.lc) (.slice N1.sa N1.sn N1.sc) (fun _ _ k=>k);have HWQ:=hide (st.went.madeAt ((Below.refl w.heap.size wr).grown gQ (Nat.le_of_succ_le st.base) (fun k e=>by cases e; exact Nat.le_refl _)) hlt (Nat.le_refl _));have HOQ:=hide oQ;obtain ⟨q0,q1,q2⟩:=zd kQ;have p0:(wr.setCell ⟨w.heap.size,0,none⟩ (.slice N1.ba N1.bn N1.bc)).cell? ⟨w.heap.size,0,none⟩=some (.slice N1.ba N1.bn N1.bc):=World.cell?_setCell_same' _ _ _ (by rw [r0]; rfl);have p1:((wr.setCell ⟨w.heap.size,0,none⟩ (.slice N1.ba N1.bn N1.bc)).setCell ⟨w.heap.size,1,none⟩ (.slice N1.la N1.ln N1.lc)).cell? ⟨w.heap.size,1,none⟩=some (.slice N1.la N1.ln N1.lc):=by
      have k1:=zE (j:=1) (zE (j:=0) st.res (.slice N1.ba N1.bn N1.bc)) (.slice N1.la N1.ln N1.lc);exact (zd (c0:=.slice N1.ba N1.bn N1.bc) (c1:=.slice N1.la N1.ln N1.lc) (c2:=.slice none 0 0) (by simpa using k1)).2.1
     clear oQ gQ kQ st;go_wp2;exact bodyPost_ret (v:=.agg #[.slice N1.ba N1.bn N1.bc,.slice N1.la N1.ln N1.lc,.slice N1.sa N1.sn N1.sc]) (by simp [results,Tryz.results63,go_sem, *]) rfl ⟨N1,rfl,HOQ.out,HOK.out,HWQ.out⟩

end

theorem zgx (a0:Option Addr) (l0 c0:Nat) (z0:List Int) (w:World) (h0:Row w a0 l0 c0 z0) (hs:l0≤1048576) :
  Calls Tryz.prog 21 #[.slice a0 l0 c0] w fun e w'=>∃(N:NV) (ao:Option Addr) (cap:Nat) (l:List EV),e=.returned (.tuple #[.agg #[.slice N.ba N.bn N.bc,.slice N.la N.ln N.lc,.slice N.sa N.sn N.sc],.slice ao l.length cap])∧NOwn w' w.heap.size N∧NetOk N.brs N.ls N.ss∧l.length≤1000∧w'.ownsRow w.heap.size 51 2 (.slice ao l.length cap) l.length (evF.all l)∧Below w.heap.size w w':=by
 generalize hw1:w.alloc (Obj.cells #[.slice none 0 0,.slice none 0 0,.slice none 0 0] 31)=w1;have b1:=zb hw1;have k1:=zk hw1;have HZ:Hid (w1.heap.size=w.heap.size+1):=hide (by rw [← hw1]; simp);go_enter Tryz.func21,Tryz.ntmps21;go_wp2_with fail
 clear hw1;refine (zj6 a0 l0 c0 z0 _ (h0.below b1) hs).mono ?_;rintro e w2 ⟨rfl,hc,hb2⟩;have b2:=zc b1 hb2;have k2:=za k1 hb2;have HCN:Hid (w1.heap.size≠w.heap.size):=hide (by have:=HZ.out; omega);generalize hCC:w1.heap.size=C at *;go_wp2_with fail
 refine (zjG a0 l0 c0 20 _ hs (by omega) (by omega)).mono ?_;rintro e w3 ⟨x,rfl,hx0,hx1,e3⟩;obtain rfl:=e3.symm;obtain ⟨xm,hxm⟩:∃xm:Nat,6+x=(xm:Int):=⟨(6+x).toNat,by omega⟩;have HXM:Hid (xm≤900):=hide (by omega);go_wp2_with fail
 try rw [hxm]
 clear hx0 hx1 hxm;refine (zgN C a0 l0 c0 z0 xm _ hc HXM.out).mono ?_;rintro e w4 ⟨N,rfl,oN,hok,wt⟩;have HOK:=hide hok;have HLT:Hid (C < w2.heap.size):=hide hc.lt;have k4:=ze k2 wt.grown (fun j e=>by cases e; exact HCN.out);have HB4:Hid (Below w.heap.size w w4):=hide (b2.grown wt.grown b2.size (fun k e=>by cases e; have:=HZ.out; omega));have cur4:=wt.cur;clear hok wt hc;go_wp2_with fail
 refine (zfs C a0 l0 c0 z0 10 _ cur4 (by omega) (by omega)).mono ?_;rintro e w5 ⟨ao,cap,l,rfl,hl,oE,wt⟩;have HL:=hide hl;have k5:=ze k4 wt.grown (fun j e=>by cases e; exact HCN.out);have oN5:=oN.goes wt.grown (by have:=HLT.out; omega);have HB5:Hid (Below w.heap.size w w5):=hide (HB4.out.grown wt.grown HB4.out.size (fun k e=>by cases e; have:=HZ.out; omega));clear hl wt cur4 oN k4 k2 k1;obtain ⟨r0,r1,r2⟩:=zd k5;have f0:=zf k5 0;have f1:=zf k5 1;have f2:=zf k5 2;have kQ:=zT (K:=fun V=>V.heap[w.heap.size]?=some (.cells #[.slice N.ba N.bn N.bc,.slice N.la N.ln N.lc,.slice N.sa N.sn N.sc] 31)) k5 (.slice N.ba N.bn N.bc) (.slice N.la N.ln N.lc) (.slice N.sa N.sn N.sc) (fun _ k _=>k);have gQ:=zT (K:=fun V=>w5.grownBy V (some w.heap.size)) k5 (.slice N.ba N.bn N.bc) (.slice N.la N.ln N.lc) (.slice N.sa N.sn N.sc) (fun _ _ k=>k);have HOQ:=hide ((oN5.out k5).lt (show w.heap.size≤w2.heap.size+1 by have:=HLT.out; have:=HZ.out; omega));have HEQ:=hide (zF (zt oE gQ (zz oE k5 (by decide))) (show w.heap.size≤w4.heap.size from HB4.out.size));have HBQ:=hide (HB5.out.grown gQ HB5.out.size (fun k e=>by cases e; exact Nat.le_refl _));obtain ⟨q0,q1,q2⟩:=zd kQ;have p0:(w5.setCell ⟨w.heap.size,0,none⟩ (.slice N.ba N.bn N.bc)).cell? ⟨w.heap.size,0,none⟩=some (.slice N.ba N.bn N.bc):=World.cell?_setCell_same' _ _ _ (by rw [r0]; rfl);have p1:((w5.setCell ⟨w.heap.size,0,none⟩ (.slice N.ba N.bn N.bc)).setCell ⟨w.heap.size,1,none⟩ (.slice N.la N.ln N.lc)).cell? ⟨w.heap.size,1,none⟩=some (.slice N.la N.ln N.lc):=by
  have k1:=zE (j:=1) (zE (j:=0) k5 (.slice N.ba N.bn N.bc)) (.slice N.la N.ln N.lc);exact (zd (c0:=.slice N.ba N.bn N.bc) (c1:=.slice N.la N.ln N.lc) (c2:=.slice none 0 0) (by simpa using k1)).2.1
 clear oN5 kQ gQ k5 oE;go_wp2;exact bodyPost_ret (v:=.tuple #[.agg #[.slice N.ba N.bn N.bc,.slice N.la N.ln N.lc,.slice N.sa N.sn N.sc],.slice ao l.length cap]) (by simp [results,Tryz.results21,go_sem, *]) rfl ⟨N,ao,cap,l,rfl,HOQ.out,HOK.out,HL.out,HEQ.out,HBQ.out⟩

theorem BOs.boxedI {w w':World} {base:Nat} {ao:Option Addr} {n cap:Nat} {l:List BV} (h:BOs w base ao n cap l) {X:Nat} {cs:Array Value} (hX:w.heap[X]?=some (.cells cs 101)) (hg:w.grownBy w' (some X)):BOs w' base ao n cap l :=
 ⟨zt h.row hg (zz h.row hX (by decide)),fun x hx=>(h.item x hx).other hX (by decide) (by decide) (by decide) (by decide) hg,h.apart⟩

theorem NOwn.boxedI {w w':World} {base:Nat} {M:NV} (h:NOwn w base M) {X:Nat} {cs:Array Value} (hX:w.heap[X]?=some (.cells cs 101)) (hg:w.grownBy w' (some X)):NOwn w' base M :=
 ⟨h.b.boxedI hX hg,zt h.l hg (zz h.l hX (by decide)),zt h.s hg (zz h.s hX (by decide))⟩

structure NiSt (w:World) (base X:Nat) (M:NV):Prop where
 box:w.heap[X]?=some (.cells #[.slice M.ba M.bn M.bc,.slice M.la M.ln M.lc,.slice M.sa M.sn M.sc] 101)
 own:NOwn w base M
 le:base≤X

theorem NiSt.later {w w':World} {base X:Nat} {M:NV} (h:NiSt w base X M) (hb:Below w.heap.size w w'):NiSt w' base X M:=⟨za h.box hb,h.own.below hb,h.le⟩
theorem NiSt.size {w:World} {base X:Nat} {M:NV} (h:NiSt w base X M):base≤w.heap.size:=by have h1:=zaO h.box; have h2:=h.le; omega

theorem NiSt.put {w w1 w2:World} {base X g:Nat} {M:NV} {pre post:List BV} {x y:BV} (h:NiSt w base X M) (hba:M.ba=some ⟨g,0,none⟩) (hbs:M.bs=pre++x::post) (hb:Below w.heap.size w w1) (hy:y.Own w1 w.heap.size) (hg:w1.grownBy w2 (some g)) (hr:w2.ownsRow base 63 11 (.slice (some ⟨g,0,none⟩) M.bn M.bc) M.bn (brF.all (pre++y::post))) :
  NiSt w2 base X { M with bs:=pre++y::post }∧Below base w w2:=by
 have ob:BOs w base (some ⟨g,0,none⟩) M.bn M.bc (pre++x::post):=by have:=h.own.b; rw [hba,hbs] at this; exact this
 have hp:=ob.put hb hy h.size hg hr;have hrw:=(ob.below hb).row;have k1:=ze (za h.box hb) hg (fun k hk=>zz hrw (za h.box hb) (by decide) k hk);have ol:=zA (zh h.own.l hb) hrw (by decide) (v2:=.slice (some ⟨g,0,none⟩) M.bn M.bc) hg;have os:=zA (zh h.own.s hb) hrw (by decide) (v2:=.slice (some ⟨g,0,none⟩) M.bn M.bc) hg;have b1:Below base w w1:=hb.mono h.size;refine ⟨⟨k1,⟨by rw [hba]; exact hp,ol,os⟩,h.le⟩,b1.grown hg (Nat.le_trans h.size hb.size) (by intro k e; cases e; exact (ob.row.lt g rfl).1)⟩

theorem NiSt.pushS {w w1 w2:World} {base X:Nat} {M:NV} {s:SY} (h:NiSt w base X M) (hb:Below w.heap.size w w1) (hg:w1.grownBy w2 (Value.slice M.sa M.sn M.sc).ownBlock) {ao':Option Addr} {cap':Nat} (hr:w2.ownsRow base 90 7 (.slice ao' (M.sn+1) cap') (M.sn+1) (sayF.all (M.ss++[s]))) :
  w2.heap[X]?=some (.cells #[.slice M.ba M.bn M.bc,.slice M.la M.ln M.lc,.slice M.sa M.sn M.sc] 101)∧NiSt (w2.setCell ⟨X,2,none⟩ (.slice ao' (M.sn+1) cap')) base X { M with sa:=ao',sn:=M.sn+1,sc:=cap',ss:=M.ss++[s] }∧Below base w (w2.setCell ⟨X,2,none⟩ (.slice ao' (M.sn+1) cap')):=by
 have h1:=h.later hb;have hrw:=h1.own.s;have k1:=ze h1.box hg (fun k hk=>zz hrw h1.box (by decide) k hk);have ob:=h1.own.b.typed hrw hg;have ol:=zA h1.own.l hrw (by decide) hg;have hgx:w2.grownBy (w2.setCell ⟨X,2,none⟩ (.slice ao' (M.sn+1) cap')) (some X):=zn 2 _;have nb:=NOwn.boxedI (M:={ M with sa:=ao',sn:=M.sn+1,sc:=cap',ss:=M.ss++[s] }) ⟨ob,ol,hr⟩ k1 hgx;have b1:Below base w w1:=hb.mono h.size;have b2:=b1.grown hg (Nat.le_trans h.size hb.size) (by intro k hk; exact (hrw.lt k hk).1);have hle:=h.le;refine ⟨k1,⟨?_,nb,h.le⟩,b2.grown hgx (by have:=zaO k1; omega) (by intro k e; cases e; omega)⟩
 have:=zE (j:=2) k1 (.slice ao' (M.sn+1) cap')
 simpa using this

theorem NiSt.saidNew {w w1:World} {base X:Nat} {M:NV} (h:NiSt w base X M) (hb:Below w.heap.size w w1) {ao:Option Addr} {n cap:Nat} {ss:List SY} (hr:w1.ownsRow base 90 7 (.slice ao n cap) n (sayF.all ss)) :
  w1.heap[X]?=some (.cells #[.slice M.ba M.bn M.bc,.slice M.la M.ln M.lc,.slice M.sa M.sn M.sc] 101)∧NiSt (w1.setCell ⟨X,2,none⟩ (.slice ao n cap)) base X { M with sa:=ao,sn:=n,sc:=cap,ss:=ss }∧Below base w (w1.setCell ⟨X,2,none⟩ (.slice ao n cap)):=by
 have h1:=h.later hb;have k1:=h1.box;have hgx:w1.grownBy (w1.setCell ⟨X,2,none⟩ (.slice ao n cap)) (some X):=zn 2 _;have nb:=NOwn.boxedI (M:={ M with sa:=ao,sn:=n,sc:=cap,ss:=ss }) ⟨h1.own.b,h1.own.l,hr⟩ k1 hgx;have b1:Below base w w1:=hb.mono h.size;have hle:=h.le;refine ⟨k1,⟨?_,nb,h.le⟩,b1.grown hgx (by have:=zaO k1; omega) (by intro k e; cases e; omega)⟩
 have:=zE (j:=2) k1 (.slice ao n cap)
 simpa using this

theorem NiSt.push {w w1 w2:World} {base X:Nat} {M:NV} (h:NiSt w base X M) (hb:Below w.heap.size w w1) {y:BV} (hy:y.Own w1 w.heap.size) (hg:w1.grownBy w2 (Value.slice M.ba M.bn M.bc).ownBlock) {ao':Option Addr} {cap':Nat} (hr:w2.ownsRow base 63 11 (.slice ao' (M.bn+1) cap') (M.bn+1) (brF.all (M.bs++[y]))) :
  w2.heap[X]?=some (.cells #[.slice M.ba M.bn M.bc,.slice M.la M.ln M.lc,.slice M.sa M.sn M.sc] 101)∧NiSt (w2.setCell ⟨X,0,none⟩ (.slice ao' (M.bn+1) cap')) base X { M with ba:=ao',bn:=M.bn+1,bc:=cap',bs:=M.bs++[y] }∧Below base w (w2.setCell ⟨X,0,none⟩ (.slice ao' (M.bn+1) cap')):=by
 have hp:=h.own.b.push hb hy h.size hg hr;have ho:=(h.own.below hb).rows hg hp;have hrw:=(h.own.b.below hb).row;have k1:=ze (za h.box hb) hg (fun k hk=>zz hrw (za h.box hb) (by decide) k hk);have b1:Below base w w1:=hb.mono h.size;have b2:=b1.grown hg (Nat.le_trans h.size hb.size) (by intro k hk; exact (hrw.lt k hk).1);have hgx:w2.grownBy (w2.setCell ⟨X,0,none⟩ (.slice ao' (M.bn+1) cap')) (some X):=zn 0 _;have hle:=h.le;refine ⟨k1,⟨?_,ho.boxedI k1 hgx,hle⟩,b2.grown hgx (by have:=zaO k1; omega) (by intro k e; cases e; omega)⟩
 have:=zE (j:=0) k1 (.slice ao' (M.bn+1) cap')
 simpa using this

theorem zhI (ao:Option Addr) (n cap:Nat) (l:List SY) (w:World) (h:GRow sayF w ao n cap l) (hn:n≤16777216) :
  Calls Tryz.prog 103 #[.slice ao n cap] w fun r w'=>∃ao' cap',r=.returned (.slice ao' n cap')∧w'.ownsRow w.heap.size 90 7 (.slice ao' n cap') n (sayF.all l)∧Below w.heap.size w w':=by
 cases ao with
 | none =>
  have hc0:=h.nil rfl;have hn0:n=0:=by have:=h.le; omega
  subst hc0 hn0;have hl:l=[]:=List.eq_nil_of_length_eq_zero h.size;subst hl;have heq:∀W,(binOp .eql 29 (.slice none 0 0) (.slice none 0 0)).run Tryz.prog W=.ok (.bool true) W:=fun _=>by kernel_rfl
  go_enter Tryz.func103,Tryz.ntmps103;go_wp2;go_ret;exact ⟨none,0,rfl,World.ownsRow_nil _ _ _ _,Below.refl _ _⟩
 | some a =>
  have heq:∀W,(binOp .eql 29 (.slice (some a) n cap) (.slice none 0 0)).run Tryz.prog W=.ok (.bool false) W:=fun _=>by kernel_rfl
  go_enter Tryz.func103,Tryz.ntmps103;go_wp2_with (at_builtin; refine zM (F:=sayF) _ rfl _ _ 29 90 rfl w.heap.size Tryz.underlying29 zV rfl (by decide) _ 0 [] rfl (zaK sayF w _ 90 w.heap.size (zw w _) (Nat.le_refl _)) (some a) n cap l rfl (h.below (zm _ _)) (by omega) (by simp) ?_)
  intro ao' cap' w' how hr hgr hb;have how:w'.ownsRow w.heap.size 90 7 (.slice ao' n cap') n (sayF.all l):=how;have HO:=hide how;have HB:=hide ((zm w _).trans hb);clear how hgr hb hr;go_wp2;go_ret;exact ⟨ao',cap',(by simp),HO.out,HB.out⟩

theorem zcs (M:NV) (base X:Nat) (w:World) (h:NiSt w base X M) :
  Calls Tryz.prog 106 #[.pointer (some ⟨X,0,none⟩)] w fun e w'=>e=.returned (.int .i64 (M.bn:Int))∧w'=w:=by
 obtain ⟨x0,x1,x2⟩:=zd h.box;go_enter Tryz.func106,Tryz.ntmps106;go_wp2;go_ret;exact ⟨rfl,rfl⟩

theorem zdQ (M:NV) (base X:Nat) (w:World) (h:NiSt w base X M) :
  Calls Tryz.prog 108 #[.pointer (some ⟨X,0,none⟩)] w fun e w'=>e=.returned (.int .i64 (M.sn:Int))∧w'=w:=by
 obtain ⟨x0,x1,x2⟩:=zd h.box;go_enter Tryz.func108,Tryz.ntmps108;go_wp2;go_ret;exact ⟨rfl,rfl⟩

theorem zdq (M:NV) (base X:Nat) (w:World) (h:NiSt w base X M) :
  Calls Tryz.prog 111 #[.pointer (some ⟨X,0,none⟩)] w fun e w'=>e=.returned (.int .i64 (M.ln:Int))∧w'=w:=by
 obtain ⟨x0,x1,x2⟩:=zd h.box;go_enter Tryz.func111,Tryz.ntmps111;go_wp2;go_ret;exact ⟨rfl,rfl⟩

theorem zi8 (w:World) :
  Calls Tryz.prog 66 #[.int .i64 1] w fun e w'=>e=.returned (.agg #[.func (.func 106) #[] #[],.func (.func 107) #[] #[]])∧Below w.heap.size w w':=by
 go_enter Tryz.func66,Tryz.ntmps66;go_wp2;exact bodyPost_ret (v:=.agg #[.func (.func 106) #[] #[],.func (.func 107) #[] #[]]) (by simp [results,Tryz.results66,go_sem]) rfl ⟨rfl,zP _ _ _⟩

theorem zi9 (w:World) :
  Calls Tryz.prog 66 #[.int .i64 2] w fun e w'=>e=.returned (.agg #[.func (.func 108) #[] #[],.func (.func 109) #[] #[]])∧Below w.heap.size w w':=by
 go_enter Tryz.func66,Tryz.ntmps66;go_wp2;exact bodyPost_ret (v:=.agg #[.func (.func 108) #[] #[],.func (.func 109) #[] #[]]) (by simp [results,Tryz.results66,go_sem]) rfl ⟨rfl,zP _ _ _⟩

theorem zja (w:World) :
  Calls Tryz.prog 66 #[.int .i64 3] w fun e w'=>e=.returned (.agg #[.func (.func 108) #[] #[],.func (.func 110) #[] #[]])∧Below w.heap.size w w':=by
 go_enter Tryz.func66,Tryz.ntmps66;go_wp2;exact bodyPost_ret (v:=.agg #[.func (.func 108) #[] #[],.func (.func 110) #[] #[]]) (by simp [results,Tryz.results66,go_sem]) rfl ⟨rfl,zP _ _ _⟩

theorem zjb (w:World) :
  Calls Tryz.prog 66 #[.int .i64 4] w fun e w'=>e=.returned (.agg #[.func (.func 111) #[] #[],.func (.func 112) #[] #[]])∧Below w.heap.size w w':=by
 go_enter Tryz.func66,Tryz.ntmps66;go_wp2;exact bodyPost_ret (v:=.agg #[.func (.func 111) #[] #[],.func (.func 112) #[] #[]]) (by simp [results,Tryz.results66,go_sem]) rfl ⟨rfl,zP _ _ _⟩

theorem zjc (w:World) :
  Calls Tryz.prog 66 #[.int .i64 5] w fun e w'=>e=.returned (.agg #[.func (.func 111) #[] #[],.func (.func 113) #[] #[]])∧Below w.heap.size w w':=by
 go_enter Tryz.func66,Tryz.ntmps66;go_wp2;exact bodyPost_ret (v:=.agg #[.func (.func 111) #[] #[],.func (.func 113) #[] #[]]) (by simp [results,Tryz.results66,go_sem]) rfl ⟨rfl,zP _ _ _⟩

theorem zjd (w:World) :
  Calls Tryz.prog 66 #[.int .i64 6] w fun e w'=>e=.returned (.agg #[.func (.func 106) #[] #[],.func (.func 114) #[] #[]])∧Below w.heap.size w w':=by
 go_enter Tryz.func66,Tryz.ntmps66;go_wp2;exact bodyPost_ret (v:=.agg #[.func (.func 106) #[] #[],.func (.func 114) #[] #[]]) (by simp [results,Tryz.results66,go_sem]) rfl ⟨rfl,zP _ _ _⟩

theorem zdU {α:Type} {F:Flat α} {P:Program} {ops:Array Oper} {o:Oper} {a:Act} {w:World} {K:Act→World→Prop} {Q:Exit→Act→World→Prop} {E:Prop} (hgd:o.guard=none)
  (s x:Operand) (t T:TypeId) (ho:o.op=Op.call { callee:=Callee.builtin Builtin.append,args:=#[s,x],argTypes:=#[t,t] }) (base:Nat) {Z:Value} {by8:Nat}
  (ht:P.underlying t=some (TypeDesc.slice T)) (hinfo:(P.info? T).map (fun i=>(i.zero,i.size,i.bytes))=some (some Z,F.k,by8))
  (g n cap:Nat) (xs:List α) (hs:a.eval s=.slice (some ⟨g,0,none⟩) n cap) (hown:w.ownsRow base T F.k (.slice (some ⟨g,0,none⟩) n cap) n (F.all xs)) (ao:Option Addr) (m c:Nat) (zs:List α)
  (hx:a.eval x=.slice ao m c) (hrow:GRow F w ao m c zs) (hroom:n+m≤cap)
  (h:∀w',w'.ownsRow base T F.k (.slice (some ⟨g,0,none⟩) (n+m) cap) (n+m) (F.all (xs++zs))→w.grownBy w' (some g)→K (a.put o.dst (.slice (some ⟨g,0,none⟩) (n+m) cap)) w') :
  if Region.wanted o (yielded ops a.tmps)=true then Oper.wp P o a w K Q else E:=by
 have hw:Region.wanted o (yielded ops a.tmps)=true:=by simp [Region.wanted,hgd]
 rw [if_pos hw];obtain ⟨i0,hi,hz0,hz1,hz2⟩:=zb7 hinfo;rcases ao with _ | ad
 ·have hc0:=hrow.nil rfl;have hm0:m=0:=by have:=hrow.le; omega
  subst hc0 hm0;have hz:zs=[]:=List.eq_nil_of_length_eq_zero hrow.size;subst hz;have hrun:=run_append_owned_none (P:=P) w base t o.type T i0 F.k ht hi (.slice (some ⟨g,0,none⟩) n cap) n (F.all xs) hown;have hk:K (a.put o.dst (.slice (some ⟨g,0,none⟩) n cap)) w:=by simpa using h w (by simpa using hown) (World.grownBy.refl _ _)
  unfold Oper.wp
  simp [execOp,ho,resolve,invoke,builtin,hs,hx,hrun,Result.andThen]
  exact hk
 ·have hnews:∀(j:Nat) (u:Value),(F.all zs)[j]?=some u→w.cell? (ad.add j)=some u:=by
   intro j u hu;rcases hrow.cell with h0 | ⟨b,off,e,_⟩
   ·have hl:=(List.getElem?_eq_some_iff.1 hu).1;rw [F.all_length,hrow.size,h0,Nat.zero_mul] at hl;omega
   ·cases e;exact hrow.news j u hu
  obtain ⟨w',hrun,r1,r2⟩:=run_append_fits (P:=P) w base t o.type T i0 F.k ht hi hz1 g n cap (F.all xs) hown ad m c (F.all zs) (by rw [F.all_length,hrow.size]) hnews (F.all_oneCell zs) hroom;have hk:=h w' (by rw [F.all_append]; exact r1) r2;unfold Oper.wp
  simp [execOp,ho,resolve,invoke,builtin,hs,hx,hrun,Result.andThen]
  exact hk

theorem zeM {w:World} {base g i cap m:Nat} {L:List SY} (h:w.ownsRow base 90 7 (.slice (some ⟨g,0,none⟩) i cap) i (sayF.all L)) (hm:i+(m+1)≤cap) (ty:TypeId) :
  ∃w',(∀c,(Builtin.clear_ #[29] ty #[.slice (some ⟨g,i*7,none⟩) (m+1) c]).run Tryz.prog w=.ok (.tuple #[]) w')∧w'.ownsRow base 90 7 (.slice (some ⟨g,0,none⟩) i cap) i (sayF.all L)∧w.grownBy w' (some g):=by
 have hl:L.length=i:=(zB (F:=sayF) h).size;obtain ⟨hlen,⟨hv,h0⟩ | ⟨g',cap',cur,hv,hg,hh,h1,h2,h3,h4⟩⟩:=h
 ·cases hv
 ·cases hv;have hz:∀w,(zeroValue 90).run Tryz.prog w=.ok (.agg #[.int .i64 0,.bool false,.int .i64 0,.int .i64 0,.int .i64 0,.int .i64 0,.int .i64 0]) w:=fun w=>by kernel_rfl
  let Z:=(Builtin.zeroCells #[Value.int .i64 0,.bool false,.int .i64 0,.int .i64 0,.int .i64 0,.int .i64 0,.int .i64 0] (m+1)).toList
  have hZl:Z.length=(m+1)*7:=by simp [Z,size_zeroCells]
  have hZ1:∀v∈Z,v.oneCell'=true:=by
   intro v hv;simp only [Z,Builtin.zeroCells,Array.toList_map,List.mem_map] at hv;obtain ⟨j,-,rfl⟩:=hv;rcases (show j % 7=0∨j % 7=1∨j % 7=2∨j % 7=3∨j % 7=4∨j % 7=5∨j % 7=6 by omega) with e | e | e | e | e | e | e <;> simp [e] <;> rfl
  have hfit:i*7+0+Z.length≤cur.size:=by rw [hZl,h3]; omega
  have hst:=run_storeCells_at (P:=Tryz.prog) g (i*7) 90 Z 0 cur w hh hfit hZ1;refine ⟨w.setRow g (cur.toList.take (i*7+0)++Z++cur.toList.drop (i*7+0+Z.length)).toArray,fun c => ?_, ?_, ?_⟩
  ·have hst':=hst;simp only [Z] at hst'
   simp [Builtin.clear_,run_underlying Tryz.underlying29,hz,Value.cells,hst',Z]
  ·refine ⟨hlen,.inr ⟨g,cap,_,rfl,hg,setRow_heap w g cur _ 90 _ hh,h1,h2, ?_, ?_⟩⟩
   ·simp
    rw [hZl]
    have:cur.toList.length=cap*7:=by simpa using h3
    simp at this ⊢
    omega
   ·have hcs:cur.toList.length=cap*7:=by simpa using h3
    have e1:(cur.toList.take (i*7+0)).length=i*7:=by rw [List.length_take]; omega
    rw [List.append_assoc,List.take_append_of_le_length (by omega),List.take_of_length_le (by omega),← h4,Nat.add_zero]
  ·refine ⟨rfl,rfl,rfl, ?_, ?_⟩
   ·simp [World.setRow]
   ·intro k hk hkg;rw [setRow_other _ _ _ _ (fun e=>hkg (by rw [e]))]

theorem zhN {w:World} {base k:Nat} {e:TypeId} {a:Option Addr} {n cap:Nat} {xs:List Value} (h:w.ownsRow base e k (.slice a n cap) n xs) {i:Nat} (hi:i≤n):w.ownsRow base e k (.slice a i cap) i (xs.take (i*k)):=by
 have hik:i*k≤n*k:=Nat.mul_le_mul_right _ hi;obtain ⟨hl,⟨hv,h0⟩ | ⟨g,cap',cur,hv,hg,hh,h1,h2,h3,h4⟩⟩:=h
 ·cases hv
  have:i=0:=by omega
  subst this;exact ⟨by simp,.inl ⟨rfl,rfl⟩⟩
 ·cases hv;refine ⟨by rw [List.length_take,hl]; omega,.inr ⟨g,cap,cur,rfl,hg,hh,by omega,h2,h3, ?_⟩⟩;rw [← h4,List.take_take,Nat.min_eq_left hik]

theorem ziJ (l:List SY) (i:Nat):(sayF.all l).take (i*7)=sayF.all (l.take i):=by
 induction l generalizing i with
 | nil=>simp [Flat.all]
 | cons x l ih =>
  cases i with
  | zero=>simp [Flat.all]
  | succ i =>
   rw [sayF.all_cons,List.take_succ_cons,sayF.all_cons,← ih i];have h3:(sayF.cs x).length=7:=rfl;rw [List.take_append,h3,show (i+1)*7 - 7=i*7 by omega,List.take_of_length_le (by rw [h3]; omega)]

theorem zfI (base g n cap k:Nat) (l:List SY) (w:World) (how:w.ownsRow base 90 7 (.slice (some ⟨g,0,none⟩) n cap) n (sayF.all l)) (hk:k < n) (hn:n≤16777216) :
  Calls Tryz.prog 155 #[.slice (some ⟨g,0,none⟩) n cap,.int .i64 (k:Int),.int .i64 ((k:Int)+1)] w fun e w'=>e=.returned (.slice (some ⟨g,0,none⟩) (n - 1) cap)∧w'.ownsRow base 90 7 (.slice (some ⟨g,0,none⟩) (n - 1) cap) (n - 1) (sayF.all (l.take k++l.drop (k+1)))∧w.grownBy w' (some g):=by
 have hrow:=zB (F:=sayF) how;have hle:=hrow.le;have htop:=hrow.top;unfold maxLen at htop;have HTK:Hid (w.ownsRow base 90 7 (.slice (some ⟨g,0,none⟩) k cap) k (sayF.all (l.take k))):=hide (by
  have:=zhN how (Nat.le_of_lt hk)
  rw [ziJ] at this;exact this)
 have HDR:Hid (GRow sayF w (if cap=k+1 then some ⟨g,0,none⟩ else some ⟨g,(k+1)*7,none⟩) (n - (k+1)) (cap - (k+1)) (l.drop (k+1))):=hide (hrow.drop70 (show k+1≤n by omega));have i1:(0:Int)≤(k:Int):=by omega
 have i2:(k:Int)≤(k:Int)+1:=by omega
 have i3:(k:Int)+1≤(n:Int):=by omega
 have i4:(n:Int)≤(cap:Int):=by omega
 have i5:¬n=k:=by omega
 have i6:(k:Int)≤(cap:Int):=by omega
 have i7:(0:Int)≤(k:Int)+1:=by omega
 have i8:¬(k:Int)=(k:Int)+1:=by omega
 have i9:IntKind.i64.wrap ((k:Int)+1)=(k:Int)+1:=by rw [IntKind.wrap_i64]; omega
 have i10:((k:Int)+1).toNat=k+1:=by omega
 clear how hrow;go_enter Tryz.func155,Tryz.ntmps155;go_upto_region 5 with fail
 refine wp_region_held_drew (S:=(fun _=>True)) (by kernel_rfl) (trivial) (fun hHeld => ?_);refine kK 0 ⟨some 20,.move (.tmp 0),29,"slices.go:232",#[],none⟩ ?_;refine kK 1 ⟨some 21,.move (.tmp 1),3,"slices.go:232",#[],none⟩ ?_;refine kK 2 ⟨some 22,.slice 29 (.tmp 20) none (some (.tmp 21)) none,29,"slices.go:232",#[⟨0,.data⟩,⟨1,.data⟩],none⟩ ?_;refine kK 3 ⟨some 23,.move (.tmp 0),29,"slices.go:232",#[],none⟩ ?_;refine kK 4 ⟨some 24,.move (.tmp 2),3,"slices.go:232",#[],none⟩ ?_;refine kK 5 ⟨some 25,.slice 29 (.tmp 23) (some (.tmp 24)) none none,29,"slices.go:232",#[⟨3,.data⟩,⟨4,.data⟩],none⟩ ?_;refine kR 6 ⟨some 26,.call ⟨.builtin .append,#[.tmp 22,.tmp 25],#[29,29]⟩,29,"slices.go:232",#[⟨2,.data⟩,⟨5,.data⟩],none⟩ (fun K hK => ?_);refine zdU (F:=sayF) rfl _ _ 29 90 rfl base Tryz.underlying29 zV g k cap (l.take k) rfl (zh HTK.out (zp (Below.refl _ _))) _ (n - (k+1)) (cap - (k+1)) (l.drop (k+1)) rfl (HDR.out.below (zp (Below.refl _ _))) (by omega) ?_;intro wx how hgr;rw [show k+(n - (k+1))=n - 1 by omega] at how ⊢;refine hK.out _ _ (trivial) (fun hHeld => ?_);clear hK K
 try simp only [Act.put,lA,lB,lC]
 refine tK (v := ?_) 7 ⟨some 0,.assign (.tmp 26),29,"slices.go:232",#[⟨6,.data⟩,⟨6,.chain⟩,⟨0,.phase⟩,⟨1,.phase⟩,⟨2,.phase⟩,⟨3,.phase⟩,⟨4,.phase⟩,⟨5,.phase⟩,⟨6,.phase⟩],none⟩ ?_ ?_;rotate_left
 ·(intro _ h; (try dsimp only at h); go_simp; try with_reducible rfl)
 simp only [Act.put,List.setIfInBounds_toArray,List.set_cons_zero];refine wpAnyH_done (by kernel_rfl) ?_ _;have vv:=hgr;obtain ⟨wc,hrun,hO,hgr2⟩:=zeM (m:=0) how (by omega) 0;have HO:=hide hO;have HG:=hide (zgB (zp (Below.refl _ w)) (zL hgr hgr2));have c1:(0:Int)≤((n - 1:Nat):Int):=by omega
 have c2:((n - 1:Nat):Int)≤(n:Int):=by omega
 have c3:¬cap=n - 1:=by omega
 have c4:(n:Int)≤(cap:Int):=by omega
 have c5:n - (n - 1)=0+1:=by omega
 have c6:(n:Int).toNat - ((n - 1:Nat):Int).toNat=0+1:=by omega
 clear hHeld how hgr hgr2 hO vv HTK HDR;by_cases hc:cap=k+1
 ·subst hc;go_wp2;go_ret;exact ⟨rfl,HO.out,HG.out⟩
 ·go_wp2;go_ret;exact ⟨rfl,HO.out,HG.out⟩

end Go.Proofs.YtkoekkjfcaiagaaGreat
