/-
  Packed: DrawNt6 DrawNt7 StepRoundsI OkRg.
-/
import Derived.Test.YtkaefmfopejbaaaGreatPAK36
import Derived.Test.YtkaefmfopejbaaaGreatPAStepStepS
namespace Go.Proofs.YtkaefmfopejbaaaGreat
set_option maxRecDepth 100000
set_option maxHeartbeats 16000000
open Go.RowKit

section
open Go.RowKit

theorem zk9 {B:BR} (h:zu B=true):∀x∈B.f,x.Rng:=fun x hx=>by
 have hf:=(zU h).2.2.2.2.1;exact zkG ((((zcp B.f).1 hf).1).1 x hx)

theorem zmi {w:World} {base g n cap k:Nat} {e:TypeId} {xs:List Value} (h:w.ownsRow base e k (.slice (some ⟨g,0,none⟩) n cap) n xs) (j:Nat):w.frozen? ⟨g,j,none⟩=false:=by
 obtain ⟨-,⟨h,-⟩ | ⟨g',cap',cur,h,-,hh,-⟩⟩:=h
 ·cases h
 ·cases h;exact zf hh j

theorem zny (s:Int) (n:Nat):I64s (idsTo s n):=by
 intro z hz;obtain ⟨i,hi,rfl⟩:=List.mem_iff_getElem.1 hz;rw [zbV] at hi
 have:=zkS s n i hi
 rw [List.getElem?_eq_getElem (by rw [zbV]; exact hi)] at this;rw [Option.some.inj this];omega

theorem NOwn.goes {w w':World} {base:Nat} {M:NV} (h:NOwn w base M) {C:Nat} (hg:w.grownBy w' (some C)) (hC:C < base):NOwn w' base M:=by
 have ho:Only [C] w w':=⟨hg.os,hg.tape,hg.output,hg.size,fun k hk hn=>hg.block k hk (fun e=>hn (by cases e; simp))⟩;exact ⟨h.b.only ho (fun b hb hc=>by have:=(h.b.blk b hb).1; simp at hc; omega),zL h.l hg (fun b hb=>by cases hb; exact hC),zL h.s hg (fun b hb=>by cases hb; exact hC)⟩

structure DnSt (w wr:World) (C:Nat) (a0:Option Addr) (l0 c0:Nat) (z0:List Int) (X:Nat) (N:NV):Prop where
 res:wr.heap[w.heap.size]? = some (.cells #[.slice none 0 0,.slice none 0 0,.slice none 0 0] 28)
 box:wr.heap[X]? = some (.cells #[.slice N.ba N.bn N.bc,.slice N.la N.ln N.lc,.slice N.sa N.sn N.sc] 28)
 own:NOwn wr (w.heap.size+1) N
 went:Went w wr C a0 l0 c0 z0
 lt:C < w.heap.size
 xl:w.heap.size < X

section
variable {w wr w':World} {C:Nat} {a0:Option Addr} {l0 c0:Nat} {z0:List Int} {X:Nat} {N:NV}
theorem DnSt.base (h:DnSt w wr C a0 l0 c0 z0 X N):w.heap.size+1≤wr.heap.size:=Nat.succ_le_of_lt (Array.getElem?_eq_some_iff.1 h.res).1
theorem DnSt.later (h:DnSt w wr C a0 l0 c0 z0 X N) (hb:Below wr.heap.size wr w'):DnSt w w' C a0 l0 c0 z0 X N:=⟨za h.res hb,za h.box hb,h.own.below hb,h.went.made hb,h.lt,h.xl⟩
theorem DnSt.goes (h:DnSt w wr C a0 l0 c0 z0 X N) (wt:Went wr w' C a0 l0 c0 z0):DnSt w w' C a0 l0 c0 z0 X N :=
 ⟨ze h.res wt.grown (fun j e=>by cases e; exact Nat.ne_of_lt h.lt),ze h.box wt.grown (fun j e=>by cases e; exact Nat.ne_of_lt (Nat.lt_trans h.lt h.xl)),h.own.goes wt.grown (Nat.lt_succ_of_lt h.lt),h.went.trans wt,h.lt,h.xl⟩
theorem DnSt.turned (h:DnSt w wr C a0 l0 c0 z0 X N) {M:NV} (oM:NOwn wr (w.heap.size+1) M) (kQ:w'.heap[X]? = some (.cells #[.slice M.ba M.bn M.bc,.slice M.la M.ln M.lc,.slice M.sa M.sn M.sc] 28)) (gQ:wr.grownBy w' (some X)):DnSt w w' C a0 l0 c0 z0 X M :=
 ⟨ze h.res gQ (fun j e=>by cases e; exact Nat.ne_of_gt h.xl),kQ,oM.boxed h.box gQ,h.went.madeAt ((Below.refl w.heap.size wr).grown gQ (Nat.le_of_succ_le h.base) (fun k e=>by cases e; exact Nat.le_of_lt h.xl)) h.lt (Nat.le_refl _),h.lt,h.xl⟩
theorem DnSt.ports (h:DnSt w wr C a0 l0 c0 z0 X N) {i:Nat} {y:BV} (hy:N.bs[i]? = some y) (hn:0 < y.n):∃g,y.a=some ⟨g,0,none⟩∧w.heap.size+1≤g∧wr.ownsRow (w.heap.size+1) 53 8 (.slice (some ⟨g,0,none⟩) y.n y.c) y.n (ptF.all y.B.ports):=by
 have hO:=(h.own.b.item y (List.mem_of_getElem? hy)).ports;obtain ⟨g,hg,hb,-⟩:=zkM (F:=ptF) hO hn;exact ⟨g,hg,hb,by rw [← hg]; exact hO⟩
theorem DnSt.cost (h:DnSt w wr C a0 l0 c0 z0 X N) {i p:Nat} {y:BV} {x:PT} (hy:N.bs[i]? = some y) (hx:y.B.ports[p]? = some x) (hn:0 < y.n) {g:Nat} (hg:y.a=some ⟨g,0,none⟩) (k:Int):DnSt w (wr.setCell ⟨g,p*8+1,none⟩ (.int .i64 k)) C a0 l0 c0 z0 X { N with bs:=N.bs.set i { y with B:=costB y.B p x k } }:=by
 obtain ⟨g',hg',hb,hP⟩:=h.ports hy hn;rw [hg] at hg';cases hg';have hgs:wr.grownBy (wr.setCell ⟨g,p*8+1,none⟩ (.int .i64 k)) (some g):=zj _ _;exact ⟨ze h.res hgs (fun j e=>by cases e; omega),ze h.box hgs (fun j e=>by cases e; exact zA hP h.box (by decide) _ rfl),h.own.cost hy hx hg k,h.went.madeAt ((Below.refl w.heap.size wr).grown hgs (Nat.le_of_succ_le h.base) (fun k e=>by cases e; omega)) h.lt (Nat.le_refl _),h.lt,h.xl⟩
theorem zcU (h:DnSt w wr C a0 l0 c0 z0 X N) {i:Nat} {y:BV} (hy:N.bs[i]? = some y) {b off g:Nat} (hba:N.ba=some ⟨b,off,none⟩) (hga:y.a=some ⟨g,0,none⟩):wr.cell? ⟨X,0,none⟩=some (.slice (some ⟨b,off,none⟩) N.bn N.bc)∧wr.cell? ⟨b,off+i*11+2,none⟩=some (.slice (some ⟨g,0,none⟩) y.n y.c):=by
 obtain ⟨x0,-,-⟩:=zd h.box;rw [hba] at x0;obtain ⟨y',b',off',hy',ha',-,-,c2,-⟩:=br_at h.own.b.grow i (by have:=(List.getElem?_eq_some_iff.1 hy).1; have:=h.own.b.grow.size; omega);rw [hy] at hy';cases hy';rw [hba] at ha';cases ha';rw [hga] at c2;exact ⟨x0,c2⟩
end

theorem zbe {w:World} {N:NV} (h:zaa w N) (ho:NetOk N.brs N.ls N.ss):N.bn≤6∧N.ln≤9∧N.sn≤40∧1≤N.bn:=by
 have h1:=ho.1.2.2;have h2:=ho.2.1.1;have h3:=ho.2.2.2.1;rw [zc0] at h1;have e1:=h.b.size;have e2:=h.l.size;have e3:=h.s.size;omega
theorem zmc {w:World} {base:Nat} {N:NV} (h:NOwn w base N) (ho:NetOk N.brs N.ls N.ss) {i:Nat} {y:BV} (hy:N.bs[i]? = some y):y.n=y.B.ports.length∧1≤y.n∧y.n≤6:=by
 have h1:=(zC (F:=ptF) (h.b.item y (List.mem_of_getElem? hy)).ports).size;have h2:=(zU (ho.1.1 y.B (List.mem_of_getElem? (zfc hy)))).2.2.2.1;unfold in3 at h2
 simp at h2
 omega

theorem ziC (C:Nat) (a0:Option Addr) (l0 c0:Nat) (z0:List Int) (most:Nat) (w:World) (hc:Cur w C a0 l0 c0 z0) (hmost:most≤900) :
  Calls Tryz.prog 20 #[.pointer (some ⟨C,0,none⟩),.int .i64 most] w fun e w'=>∃N:NV,e=.returned (.agg #[.slice N.ba N.bn N.bc,.slice N.la N.ln N.lc,.slice N.sa N.sn N.sc])∧NOwn w' (w.heap.size+1) N∧NetOk N.brs N.ls N.ss∧Went w w' C a0 l0 c0 z0:=by
 have hlt:=hc.lt;generalize hw0:w.alloc (Obj.cells #[.slice none 0 0,.slice none 0 0,.slice none 0 0] 28)=w0;have b0:=zb hw0;have k0:=zk hw0;have HZ0:Hid (w0.heap.size=w.heap.size+1):=hide (by rw [← hw0]; simp);have wn:=Went.start hc b0;have HCN:Hid (C≠w.heap.size):=hide (by omega);go_enter Tryz.func20,Tryz.ntmps20;go_wp2_with fail
 refine (zaj C a0 l0 c0 z0 6 _ wn.cur (by omega)).mono ?_;rintro e w1 ⟨kx,rfl,kx0,kx1,-,wt⟩;have kx1:=kx1 (by omega);obtain ⟨nn,hnn⟩:∃nn:Nat,1+kx=(nn:Int):=⟨(1+kx).toNat,by omega⟩;have HN6:Hid (1≤nn∧nn≤6):=hide (by omega);have k0:=ze k0 wt.grown (fun j e=>by cases e; exact HCN.out);have HW1:Hid (w.heap.size+1≤w1.heap.size):=hide (by have:=wt.grown.size; have:=HZ0.out; omega);have wn:=wn.trans wt;clear wt hw0 b0 kx0 kx1;go_wp2_with fail
 try rw [hnn]
 clear hnn;refine (zaj C a0 l0 c0 z0 4 _ wn.cur (by omega)).mono ?_;rintro e w2 ⟨px,rfl,px0,px1,-,wt⟩;have px1:=px1 (by omega);obtain ⟨pp,hpp⟩:∃pp:Nat,2+px=(pp:Int):=⟨(2+px).toNat,by omega⟩;have HP6:Hid (1≤pp∧pp≤6):=hide (by omega);have k0:=ze k0 wt.grown (fun j e=>by cases e; exact HCN.out);have HW2:Hid (w.heap.size+1≤w2.heap.size):=hide (by have:=wt.grown.size; have:=HW1.out; omega);have wn:=wn.trans wt;clear wt px0 px1;go_wp2_with fail
 try rw [hpp]
 clear hpp;refine (zj2 C a0 l0 c0 z0 nn _ wn.cur (by have:=HN6.out; omega)).mono ?_;rintro e w3 ⟨s,ia,ic,hs0,hs7,rfl,oI,wt⟩;have HS:=hide (And.intro hs0 hs7);have k0:=ze k0 wt.grown (fun j e=>by cases e; exact HCN.out);have HW3:Hid (w.heap.size+1≤w3.heap.size):=hide (by have:=wt.grown.size; have:=HW2.out; omega);have HC2:Hid (C < w2.heap.size):=hide wn.cur.lt;have wn:=wn.trans wt;clear wt hs0 hs7;go_wp2_with fail
 refine (zhG C a0 l0 c0 z0 nn pp _ wn.cur HN6.out.1 (by have:=HN6.out; omega) HP6.out.1 (by have:=HP6.out; omega)).mono ?_;rintro e w4 ⟨la,lc,ls,rfl,hLI,oL,wt⟩;have HOK0:=hide (zlQ (s:=s) HN6.out HP6.out hLI);have HL9:=hide hLI.len;have k0:=ze k0 wt.grown (fun j e=>by cases e; exact HCN.out);have oI:=zL oI wt.grown (fun b hb=>by cases hb; exact HC2.out);have HW4:Hid (w.heap.size+1≤w4.heap.size):=hide (by have:=wt.grown.size; have:=HW3.out; omega);have wn:=wn.trans wt;clear wt hLI;go_wp2_with fail
 refine (zfM ia nn ic (idsTo s nn) (pp:Int) la ls.length lc ls _ (zdi (by rw [← zbw]; exact oI) (zny s nn)) (zC (F:=linkF) oL) (by have:=HL9.out; omega) (by have:=HN6.out; omega)).mono ?_;rintro e w5 ⟨N0,rfl,oN,hNI,hb5⟩;obtain ⟨hbrs,hls⟩:=hNI.yes HOK0.out;have HOKN:Hid (NetOk N0.brs N0.ls N0.ss):=hide (by
  have e1:N0.brs=upBs (idsTo s nn) (pp:Int):=hbrs;rw [e1,hls,oN.s.2.2.2];exact (zm3 _ _ _).1 HOK0.out)
 generalize hwX:w5.alloc (Obj.cells #[.slice N0.ba N0.bn N0.bc,.slice N0.la N0.ln N0.lc,.slice N0.sa N0.sn N0.sc] 28)=wX;have bX:=zb hwX;have kX:=zk hwX;have st0:DnSt w wX C a0 l0 c0 z0 w5.heap.size N0:=⟨za (za k0 hb5) bX,kX,(oN.all.lt HW4.out).below bX,(wn.made hb5).made bX,hlt,by have:=hb5.size; have:=HW4.out; omega⟩;clear oN hNI hbrs hls hb5 bX kX k0 oI oL wn HOK0;generalize hXX:w5.heap.size=X at *;go_wp2_with fail
 clear hwX
 go_loopw [8,9] (fun v u9 wr=>∃(i:Nat) (N:NV),v=.int .i64 (i:Int)∧i≤N.bn∧NetOk N.brs N.ls N.ss∧DnSt w wr C a0 l0 c0 z0 X N) (fun v _ _=>7 - (intOf v).toNat)
 case atStart=>exact ⟨0,N0,rfl,Nat.zero_le _,HOKN.out,st0⟩
 case round =>
  clear st0;obtain ⟨i,N,rfl,hi,hok,st⟩:=hrel;have HOK:=hide hok;have HSZ:=hide (zbe st.own.row hok);have hi6:(i:Int)≤6:=by have:=HSZ.out; omega
  clear hok;obtain ⟨x0,x1,x2⟩:=zd st.box;by_cases hib:i < N.bn
  ·have hib':(i:Int) < (N.bn:Int):=by omega
   (go_wp2_with fail)
   go_loopw [9] (fun v wr=>∃(p:Nat) (M:NV),v=.int .i64 (p:Int)∧p≤6∧M.bn=N.bn∧NetOk M.brs M.ls M.ss∧DnSt w wr C a0 l0 c0 z0 X M) (fun v _=>7 - (intOf v).toNat)
   case atStart=>exact ⟨0,N,rfl,Nat.zero_le _,rfl,HOK.out,st⟩
   case round =>
    clear st x0 x1 x2 HOK;obtain ⟨p,N1,rfl,hp6,hbn,hok,st⟩:=hrel;have HOK:=hide hok;have HNB:=hide hbn;have hib1:i < N1.bn:=by omega
    obtain ⟨y,b,off,hy,hba,-,-,c2,-⟩:=br_at st.own.b.grow i hib1;obtain ⟨hyl,hy1,hy6⟩:=zmc st.own hok hy;clear hok hbn;obtain ⟨x0,x1,x2⟩:=zd st.box;rw [hba] at x0;have i1:(0:Int)≤(i:Int):=by omega
    have i2:(i:Int) < (N1.bn:Int):=by omega
    by_cases hp:p < y.n
    ·obtain ⟨x,hx⟩:∃x,y.B.ports[p]? = some x:=⟨_,List.getElem?_eq_getElem (by omega)⟩;obtain ⟨g,hga,-,-⟩:=st.ports hy hy1;rw [hga] at c2;have i3:(0:Int)≤(p:Int):=by omega
     have i4:(p:Int) < (y.n:Int):=by omega
     have vv:Below wr.heap.size wr wr.drew:=zq (Below.refl _ _);(go_upto_region 10 with fail);clear x0 x1 x2 c2;generalize N1=N at *;refine wp_region_held_drew (S:=(fun W=>zcc W X 0 (.slice (some ⟨b,off,none⟩) N.bn N.bc)∧zcc W b (off+i*11+2) (.slice (some ⟨g,0,none⟩) y.n y.c))) (by kernel_rfl) ((by first | exact zcU st hy hba hga | exact zcU (st.later vv) hy hba hga | exact zcU st2 HY2.out hba hga)) (fun hHeld => ?_);refine kK 0 ?_;refine kK 1 ?_;refine kK 2 ?_;refine kK 3 ?_;refine kK 4 ?_;refine kK 5 ?_;refine kK 6 ?_;refine kK 7 ?_;refine kR 8 fun K hK => ?_
     go_simp;clear hHeld vv;generalize hwa:wr.alloc (Obj.cells #[.int .i64 1,.int .i64 1,.int .i64 2,.int .i64 5,.int .i64 20] 3)=wa;have ba:=zb hwa;have ka:=zk hwa;have hCa:C < wr.heap.size:=st.went.cur.lt;have vv:Below wa.heap.size wa wa.drew:=zq (Below.refl _ _);have st:=st.later (zc ba vv);have ka:=za ka vv;clear vv ba;generalize wa.drew=wd at *;(go_wp2_with fail);refine kO hK ((by first | exact zcU st hy hba hga | exact zcU (st.later vv) hy hba hga | exact zcU st2 HY2.out hba hga)) fun hHeld => ?_
     clear hK K;refine kR 9 fun K hK => ?_
     go_simp;clear hHeld;refine (zef C a0 l0 c0 z0 [1,1,2,5,20] _ _ _ st.went.cur hCa ka rfl (by simp) (by simp)).mono ?_;rintro e wz ⟨ck,hck,rfl,wt⟩;have HK:Hid (1≤ck∧ck≤1000):=hide (by simp at hck; omega);have st:=st.goes wt;clear wt ka hCa hck;generalize wz=wc2 at *;(go_wp2_with fail);refine kO hK ((by first | exact zcU st hy hba hga | exact zcU (st.later vv) hy hba hga | exact zcU st2 HY2.out hba hga)) fun hHeld => ?_
     clear hK K;refine kK 10 ?_;refine kK 11 ?_;refine kR 12 fun K hK => ?_
     clear hHeld;obtain ⟨g3,hga3,-,hP3⟩:=st.ports hy hy1;rw [hga] at hga3;cases hga3;obtain ⟨x',b',off',hx',ha',-,q1,-⟩:=pt_at (zC (F:=ptF) hP3) p hp;rw [hx] at hx';cases hx';cases ha';have fz:=zmi hP3 (p*8+1);have HOK2:Hid (NetOk ({ N with bs:=N.bs.set i { y with B:=costB y.B p x ck } }:NV).brs ({ N with bs:=N.bs.set i { y with B:=costB y.B p x ck } }:NV).ls ({ N with bs:=N.bs.set i { y with B:=costB y.B p x ck } }:NV).ss):=hide (by
      show NetOk ((N.bs.set i { y with B:=costB y.B p x ck }).map BV.B) N.ls N.ss
      rw [List.map_set];exact zjT HOK.out (zfc hy) hx HK.out)
     have st2:=st.cost hy hx hy1 hga ck;have HY2:Hid ((N.bs.set i { y with B:=costB y.B p x ck })[i]? = some { y with B:=costB y.B p x ck }):=hide (by rw [List.getElem?_set,if_pos rfl,if_pos (List.getElem?_eq_some_iff.1 hy).1]);rw [Nat.zero_add] at q1;clear hP3;go_simp;refine kO hK ((by first | exact zcU st hy hba hga | exact zcU (st.later vv) hy hba hga | exact zcU st2 HY2.out hba hga)) fun hHeld => ?_
     clear hK K;refine wpAnyH_done (by kernel_rfl) ?_ _;have HST:=hide st2;clear hHeld;go_wp2
     go_roundw
     case rel=>exact ⟨p+1,{ N with bs:=N.bs.set i { y with B:=costB y.B p x ck } },by go_num,by omega,HNB.out,HOK2.out,HST.out⟩
     case measure=>simp [intOf]; omega
    ·have hp':¬(p:Int) < (y.n:Int):=by omega
     have HST:=hide st;clear st;go_wp2
     go_roundw
     case rel=>exact ⟨i+1,N1,by go_num,by omega,HOK.out,HST.out⟩
     case measure=>simp [intOf]; omega
  ·have hib':¬(i:Int) < (N.bn:Int):=by omega
   (go_wp2_with fail);refine (zaj C a0 l0 c0 z0 ((most:Int)+1) _ st.went.cur (by omega)).mono ?_;rintro e w6 ⟨mx,rfl,mx0,mx1,-,wt⟩;have mx1:=mx1 (by omega);obtain ⟨m0,rfl⟩:∃m0:Nat,mx=(m0:Int):=⟨mx.toNat,by omega⟩;have HM0:Hid (m0≤1000):=hide (by omega);have st6:=st.goes wt;clear wt st x0 x1 x2 mx0 mx1;(go_wp2_with fail)
   go_loopw [10] (fun v wr=>∃(m:Nat) (M:NV),v=.int .i64 (m:Int)∧m≤1000∧NetOk M.brs M.ls M.ss∧DnSt w wr C a0 l0 c0 z0 X M) (fun v _=>(intOf v).toNat)
   case atStart=>exact ⟨m0,N,rfl,HM0.out,HOK.out,st6⟩
   case round =>
    clear st6 HOK HSZ;obtain ⟨m,N1,rfl,hm,hok,st⟩:=hrel;have HOK:=hide hok;have HMM:=hide hm;have HSZ:=hide (zbe st.own.row hok);clear hok;by_cases hm1:0 < (m:Int)
    ·have vv:Below wr.heap.size wr wr.drew:=zq (Below.refl _ _);obtain ⟨x0,x1,x2⟩:=zd st.box;(go_upto_region 14 with fail);generalize N1=N at *;refine wp_region_held_drew (S:=(fun _=>True)) (by kernel_rfl) (trivial) (fun hHeld => ?_);refine kK 1 ?_;refine tR [0,2] ?_;refine kC (fun K hK => ?_) ?_
     ·go_simp;refine kO hK (trivial) fun hHeld => ?_
      clear hK K;refine kR 2 fun K hK => ?_
      go_simp;refine kO hK (trivial) fun hHeld => ?_
      clear hK K;refine kR 3 fun K hK => ?_
      go_simp;clear hHeld;have st:=st.later vv;clear vv x0 x1 x2;refine (zc5 C a0 l0 c0 z0 N _ st.went.cur (by have:=HSZ.out; omega) (by have:=HSZ.out; omega) (by have:=HSZ.out; omega)).mono ?_;rintro e wz ⟨kd,ei,rfl,wt⟩;have st:=st.goes wt;clear wt;generalize wz=wc2 at *;obtain ⟨x0,x1,x2⟩:=zd st.box;(go_wp2_with fail);refine kO hK (trivial) fun hHeld => ?_
      clear hK K;refine kR 4 fun K hK => ?_
      go_simp;clear hHeld x0 x1 x2;refine (zcM N kd ei _ st.own.row (by have:=HSZ.out; omega) (by have:=HSZ.out; omega) (by have:=HSZ.out; omega) (zci st.own.row (fun B hB=>ok_sm (HOK.out.1.1 B hB))) (fun B hB=>zk9 (HOK.out.1.1 B hB))).mono ?_;rintro e wz ⟨M,sq,rfl,oM,hst,hbz⟩;have HOK2:Hid (NetOk M.brs M.ls M.ss):=hide (zhb hst HOK.out);have oM:=oM.lt (st.base);have st:=st.later hbz;clear hbz hst;generalize wz=wc3 at *;(go_wp2_with fail);refine kO hK (trivial) fun hHeld => ?_
      clear hK K;refine kK 5 ?_;refine kK 6 ?_;refine kK 7 ?_;refine kR 8 fun K hK => ?_
      clear hHeld;obtain ⟨t0,t1,t2⟩:=zd st.box;have f0:=zf st.box 0;have f1:=zf st.box 1;have f2:=zf st.box 2;go_simp;refine zZ (K:=K _) st.box _ _ _ (fun wq kQ gQ => ?_);have st2:=st.turned oM kQ gQ;clear t0 t1 t2 f0 f1 f2 kQ gQ oM;refine kO hK (trivial) fun hHeld => ?_
      clear hK K;refine wpAnyH_done (by kernel_rfl) ?_ _;have HST:=hide st2;have hmb:(m:Int)≤1000:=by have:=HMM.out; omega
      clear hHeld;go_wp2
      go_roundw
      case rel=>exact ⟨m - 1,M,by rw [show ((m - 1:Nat):Int)=(m:Int) - 1 by omega],by omega,HOK2.out,HST.out⟩
      case measure=>simp [intOf]; omega
     refine kC (fun K hK => ?_) ?_
     ·go_simp;refine kO hK (trivial) fun hHeld => ?_
      clear hK K;refine tR [0,3] ?_;refine kC (fun K hK => ?_) ?_
      ·go_simp;refine kO hK (trivial) fun hHeld => ?_
       clear hK K;refine kR 3 fun K hK => ?_
       go_simp;clear hHeld;have st:=st.later vv;clear vv x0 x1 x2;refine (zc5 C a0 l0 c0 z0 N _ st.went.cur (by have:=HSZ.out; omega) (by have:=HSZ.out; omega) (by have:=HSZ.out; omega)).mono ?_;rintro e wz ⟨kd,ei,rfl,wt⟩;have st:=st.goes wt;clear wt;generalize wz=wc2 at *;obtain ⟨x0,x1,x2⟩:=zd st.box;(go_wp2_with fail);refine kO hK (trivial) fun hHeld => ?_
       clear hK K;refine kR 4 fun K hK => ?_
       go_simp;clear hHeld x0 x1 x2;refine (zcM N kd ei _ st.own.row (by have:=HSZ.out; omega) (by have:=HSZ.out; omega) (by have:=HSZ.out; omega) (zci st.own.row (fun B hB=>ok_sm (HOK.out.1.1 B hB))) (fun B hB=>zk9 (HOK.out.1.1 B hB))).mono ?_;rintro e wz ⟨M,sq,rfl,oM,hst,hbz⟩;have HOK2:Hid (NetOk M.brs M.ls M.ss):=hide (zhb hst HOK.out);have oM:=oM.lt (st.base);have st:=st.later hbz;clear hbz hst;generalize wz=wc3 at *;(go_wp2_with fail);refine kO hK (trivial) fun hHeld => ?_
       clear hK K;refine kK 5 ?_;refine kK 6 ?_;refine kK 7 ?_;refine kR 8 fun K hK => ?_
       clear hHeld;obtain ⟨t0,t1,t2⟩:=zd st.box;have f0:=zf st.box 0;have f1:=zf st.box 1;have f2:=zf st.box 2;go_simp;refine zZ (K:=K _) st.box _ _ _ (fun wq kQ gQ => ?_);have st2:=st.turned oM kQ gQ;clear t0 t1 t2 f0 f1 f2 kQ gQ oM;refine kO hK (trivial) fun hHeld => ?_
       clear hK K;refine wpAnyH_done (by kernel_rfl) ?_ _;have HST:=hide st2;have hmb:(m:Int)≤1000:=by have:=HMM.out; omega
       clear hHeld;go_wp2
       go_roundw
       case rel=>exact ⟨m - 1,M,by rw [show ((m - 1:Nat):Int)=(m:Int) - 1 by omega],by omega,HOK2.out,HST.out⟩
       case measure=>simp [intOf]; omega
      refine kC (fun K hK => ?_) ?_
      ·go_simp;clear hHeld;have st:=st.later vv;clear vv x0 x1 x2;refine (zc5 C a0 l0 c0 z0 N _ st.went.cur (by have:=HSZ.out; omega) (by have:=HSZ.out; omega) (by have:=HSZ.out; omega)).mono ?_;rintro e wz ⟨kd,ei,rfl,wt⟩;have st:=st.goes wt;clear wt;generalize wz=wc2 at *;obtain ⟨x0,x1,x2⟩:=zd st.box;(go_wp2_with fail);refine kO hK (trivial) fun hHeld => ?_
       clear hK K;refine kR 0 fun K hK => ?_
       go_simp;refine kO hK (trivial) fun hHeld => ?_
       clear hK K;refine kR 4 fun K hK => ?_
       go_simp;clear hHeld x0 x1 x2;refine (zcM N kd ei _ st.own.row (by have:=HSZ.out; omega) (by have:=HSZ.out; omega) (by have:=HSZ.out; omega) (zci st.own.row (fun B hB=>ok_sm (HOK.out.1.1 B hB))) (fun B hB=>zk9 (HOK.out.1.1 B hB))).mono ?_;rintro e wz ⟨M,sq,rfl,oM,hst,hbz⟩;have HOK2:Hid (NetOk M.brs M.ls M.ss):=hide (zhb hst HOK.out);have oM:=oM.lt (st.base);have st:=st.later hbz;clear hbz hst;generalize wz=wc3 at *;(go_wp2_with fail);refine kO hK (trivial) fun hHeld => ?_
       clear hK K;refine kK 5 ?_;refine kK 6 ?_;refine kK 7 ?_;refine kR 8 fun K hK => ?_
       clear hHeld;obtain ⟨t0,t1,t2⟩:=zd st.box;have f0:=zf st.box 0;have f1:=zf st.box 1;have f2:=zf st.box 2;go_simp;refine zZ (K:=K _) st.box _ _ _ (fun wq kQ gQ => ?_);have st2:=st.turned oM kQ gQ;clear t0 t1 t2 f0 f1 f2 kQ gQ oM;refine kO hK (trivial) fun hHeld => ?_
       clear hK K;refine wpAnyH_done (by kernel_rfl) ?_ _;have HST:=hide st2;have hmb:(m:Int)≤1000:=by have:=HMM.out; omega
       clear hHeld;go_wp2
       go_roundw
       case rel=>exact ⟨m - 1,M,by rw [show ((m - 1:Nat):Int)=(m:Int) - 1 by omega],by omega,HOK2.out,HST.out⟩
       case measure=>simp [intOf]; omega
      exact AllReadyH.nil
     exact AllReadyH.nil
    ·obtain ⟨x0,x1,x2⟩:=zd st.box;obtain ⟨r0,r1,r2⟩:=zd st.res;have f0:=zf st.res 0;have f1:=zf st.res 1;have f2:=zf st.res 2;have hm1':¬0 < (m:Int):=hm1;(go_upto_region 15 with fail);have kQ:=zZ (K:=fun V=>V.heap[w.heap.size]? = some (.cells #[.slice N1.ba N1.bn N1.bc,.slice N1.la N1.ln N1.lc,.slice N1.sa N1.sn N1.sc] 28)) st.res (.slice N1.ba N1.bn N1.bc) (.slice N1.la N1.ln N1.lc) (.slice N1.sa N1.sn N1.sc) (fun _ k _=>k);have oQ:=st.own.out st.res;have gQ:=zZ (K:=fun V=>wr.grownBy V (some w.heap.size)) st.res (.slice N1.ba N1.bn N1.bc) (.slice N1.la N1.ln N1.lc) (.slice N1.sa N1.sn N1.sc) (fun _ _ k=>k);have HWQ:=hide (st.went.madeAt ((Below.refl w.heap.size wr).grown gQ (Nat.le_of_succ_le st.base) (fun k e=>by cases e; exact Nat.le_refl _)) hlt (Nat.le_refl _));have HOQ:=hide oQ;obtain ⟨q0,q1,q2⟩:=zd kQ;have p0:(wr.setCell ⟨w.heap.size,0,none⟩ (.slice N1.ba N1.bn N1.bc)).cell? ⟨w.heap.size,0,none⟩=some (.slice N1.ba N1.bn N1.bc):=World.cell?_setCell_same' _ _ _ (by rw [r0]; rfl);have p1:((wr.setCell ⟨w.heap.size,0,none⟩ (.slice N1.ba N1.bn N1.bc)).setCell ⟨w.heap.size,1,none⟩ (.slice N1.la N1.ln N1.lc)).cell? ⟨w.heap.size,1,none⟩=some (.slice N1.la N1.ln N1.lc):=by
      have k1:=zB (j:=1) (zB (j:=0) st.res (.slice N1.ba N1.bn N1.bc)) (.slice N1.la N1.ln N1.lc);exact (zd (c0:=.slice N1.ba N1.bn N1.bc) (c1:=.slice N1.la N1.ln N1.lc) (c2:=.slice none 0 0) (by simpa using k1)).2.1
     clear oQ gQ kQ st;go_wp2;exact bodyPost_ret (v:=.agg #[.slice N1.ba N1.bn N1.bc,.slice N1.la N1.ln N1.lc,.slice N1.sa N1.sn N1.sc]) (by simp [results,Tryz.results20,go_sem, *]) rfl ⟨N1,rfl,HOQ.out,HOK.out,HWQ.out⟩

end

theorem zil (a0:Option Addr) (l0 c0:Nat) (z0:List Int) (w:World) (h0:Row w a0 l0 c0 z0) (hs:l0≤1048576) :
  Calls Tryz.prog 6 #[.slice a0 l0 c0] w fun e w'=>∃(N:NV) (ao:Option Addr) (cap:Nat) (l:List EV),e=.returned (.tuple #[.agg #[.slice N.ba N.bn N.bc,.slice N.la N.ln N.lc,.slice N.sa N.sn N.sc],.slice ao l.length cap])∧NOwn w' w.heap.size N∧NetOk N.brs N.ls N.ss∧l.length≤1000∧w'.ownsRow w.heap.size 94 2 (.slice ao l.length cap) l.length (evF.all l)∧Below w.heap.size w w':=by
 generalize hw1:w.alloc (Obj.cells #[.slice none 0 0,.slice none 0 0,.slice none 0 0] 28)=w1;have b1:=zb hw1;have k1:=zk hw1;have HZ:Hid (w1.heap.size=w.heap.size+1):=hide (by rw [← hw1]; simp);go_enter Tryz.func6,Tryz.ntmps6;go_wp2_with fail
 clear hw1;refine (zm2 a0 l0 c0 z0 _ (h0.below b1) hs).mono ?_;rintro e w2 ⟨rfl,hc,hb2⟩;have b2:=zc b1 hb2;have k2:=za k1 hb2;have HCN:Hid (w1.heap.size≠w.heap.size):=hide (by have:=HZ.out; omega);generalize hCC:w1.heap.size=C at *;go_wp2_with fail
 refine (zmq a0 l0 c0 20 _ hs (by omega) (by omega)).mono ?_;rintro e w3 ⟨x,rfl,hx0,hx1,e3⟩;obtain rfl:=e3.symm;obtain ⟨xm,hxm⟩:∃xm:Nat,6+x=(xm:Int):=⟨(6+x).toNat,by omega⟩;have HXM:Hid (xm≤900):=hide (by omega);go_wp2_with fail
 try rw [hxm]
 clear hx0 hx1 hxm;refine (ziC C a0 l0 c0 z0 xm _ hc HXM.out).mono ?_;rintro e w4 ⟨N,rfl,oN,hok,wt⟩;have HOK:=hide hok;have HLT:Hid (C < w2.heap.size):=hide hc.lt;have k4:=ze k2 wt.grown (fun j e=>by cases e; exact HCN.out);have HB4:Hid (Below w.heap.size w w4):=hide (b2.grown wt.grown b2.size (fun k e=>by cases e; have:=HZ.out; omega));have cur4:=wt.cur;clear hok wt hc;go_wp2_with fail
 refine (zgV C a0 l0 c0 z0 10 _ cur4 (by omega) (by omega)).mono ?_;rintro e w5 ⟨ao,cap,l,rfl,hl,oE,wt⟩;have HL:=hide hl;have k5:=ze k4 wt.grown (fun j e=>by cases e; exact HCN.out);have oN5:=oN.goes wt.grown (by have:=HLT.out; omega);have HB5:Hid (Below w.heap.size w w5):=hide (HB4.out.grown wt.grown HB4.out.size (fun k e=>by cases e; have:=HZ.out; omega));clear hl wt cur4 oN k4 k2 k1;obtain ⟨r0,r1,r2⟩:=zd k5;have f0:=zf k5 0;have f1:=zf k5 1;have f2:=zf k5 2;have kQ:=zZ (K:=fun V=>V.heap[w.heap.size]? = some (.cells #[.slice N.ba N.bn N.bc,.slice N.la N.ln N.lc,.slice N.sa N.sn N.sc] 28)) k5 (.slice N.ba N.bn N.bc) (.slice N.la N.ln N.lc) (.slice N.sa N.sn N.sc) (fun _ k _=>k);have gQ:=zZ (K:=fun V=>w5.grownBy V (some w.heap.size)) k5 (.slice N.ba N.bn N.bc) (.slice N.la N.ln N.lc) (.slice N.sa N.sn N.sc) (fun _ _ k=>k);have HOQ:=hide ((oN5.out k5).lt (show w.heap.size≤w2.heap.size+1 by have:=HLT.out; have:=HZ.out; omega));have HEQ:=hide (zH (zt oE gQ (zA oE k5 (by decide))) (show w.heap.size≤w4.heap.size from HB4.out.size));have HBQ:=hide (HB5.out.grown gQ HB5.out.size (fun k e=>by cases e; exact Nat.le_refl _));obtain ⟨q0,q1,q2⟩:=zd kQ;have p0:(w5.setCell ⟨w.heap.size,0,none⟩ (.slice N.ba N.bn N.bc)).cell? ⟨w.heap.size,0,none⟩=some (.slice N.ba N.bn N.bc):=World.cell?_setCell_same' _ _ _ (by rw [r0]; rfl);have p1:((w5.setCell ⟨w.heap.size,0,none⟩ (.slice N.ba N.bn N.bc)).setCell ⟨w.heap.size,1,none⟩ (.slice N.la N.ln N.lc)).cell? ⟨w.heap.size,1,none⟩=some (.slice N.la N.ln N.lc):=by
  have k1:=zB (j:=1) (zB (j:=0) k5 (.slice N.ba N.bn N.bc)) (.slice N.la N.ln N.lc);exact (zd (c0:=.slice N.ba N.bn N.bc) (c1:=.slice N.la N.ln N.lc) (c2:=.slice none 0 0) (by simpa using k1)).2.1
 clear oN5 kQ gQ k5 oE;go_wp2;exact bodyPost_ret (v:=.tuple #[.agg #[.slice N.ba N.bn N.bc,.slice N.la N.ln N.lc,.slice N.sa N.sn N.sc],.slice ao l.length cap]) (by simp [results,Tryz.results6,go_sem, *]) rfl ⟨N,ao,cap,l,rfl,HOQ.out,HOK.out,HL.out,HEQ.out,HBQ.out⟩

theorem zbX (N:NV) (k:Int) (w:World) (h:zaa w N) (hz:N.Sized) (hR:∀B∈N.brs,B.Rg) :
  Calls Tryz.prog 7 #[.agg #[.slice N.ba N.bn N.bc,.slice N.la N.ln N.lc,.slice N.sa N.sn N.sc],.int .i64 k] w fun e w'=>∃M:NV,e=.returned (.agg #[.slice M.ba M.bn M.bc,.slice M.la M.ln M.lc,.slice M.sa M.sn M.sc])∧NOwn w' w.heap.size M∧zbT (min k 30).toNat N.t M.t∧Below w.heap.size w w':=by
 generalize hw1:w.alloc (Obj.cells #[.slice N.ba N.bn N.bc,.slice N.la N.ln N.lc,.slice N.sa N.sn N.sc] 28)=w1;generalize hw2:w1.alloc (Obj.cells #[.slice none 0 0,.slice none 0 0,.slice none 0 0] 28)=w2;have b01:=zb hw1;have b12:=zb hw2;have b02:=zc b01 b12;have kP:=za (zk hw1) b12;have kJ:=zk hw2;have HZR:Hid (w1.heap.size=w.heap.size+1):=hide (by rw [← hw1]; simp);have HZ:Hid (w2.heap.size=w.heap.size+2):=hide (by rw [← hw2,← hw1]; simp);obtain ⟨x0,x1,x2⟩:=zd kP;go_enter Tryz.func7,Tryz.ntmps7;go_wp2_with fail
 refine (zdz N _ (h.below b02) (by have:=hz.n; omega) (by have:=hz.l; omega) (by have:=hz.s; omega) (zfK hz.m)).mono ?_;rintro e w3 ⟨X0,base0,M,rfl,st0,sM,hbs0,hb3⟩;have oM:=st0.own.lt (base':=w2.heap.size) hbs0;obtain ⟨q0,q1,q2⟩:=zd st0.box;generalize hw4:w3.alloc (Obj.cells #[.slice M.ba M.bn M.bc,.slice M.la M.ln M.lc,.slice M.sa M.sn M.sc] 28)=w4;have b34:=zb hw4;have kY:=zk hw4;have oM:=oM.below b34;have b24:=zc hb3 b34;have kJ:=za kJ b24;have b04:=zc b02 b24;have HYR:Hid (w.heap.size+2≤w3.heap.size):=hide (by have:=hb3.size; have:=HZ.out; omega);have HB2:Hid (w.heap.size≤w2.heap.size):=hide (by have:=HZ.out; omega);go_wp2_with fail
 generalize hY:w3.heap.size=Y at *;generalize hRR:w1.heap.size=R at *;have HRG:=hide hR;clear x0 x1 x2 hb3 b34 b24 b02 b12 b01 hw1 hw2 hw4 kP q0 q1 q2 st0 hbs0 hR
 go_loopw [13] (fun i wr=>∃(j:Nat) (M:NV),j≤30∧(j=0∨(j:Int)≤k)∧i=.int .i64 j∧wr.heap[Y]? = some (.cells #[.slice M.ba M.bn M.bc,.slice M.la M.ln M.lc,.slice M.sa M.sn M.sc] 28)∧wr.heap[R]? = some (.cells #[.slice none 0 0,.slice none 0 0,.slice none 0 0] 28)∧NOwn wr w.heap.size M∧Below w.heap.size w wr∧zbT j N.t M.t) (fun i _=>30 - (intOf i).toNat)
 case atStart=>exact ⟨0,M,by omega,.inl rfl,rfl,kY,kJ,oM.lt HB2.out,b04,znM sM⟩
 case round =>
  clear kY kJ oM b04 sM;obtain ⟨j,M2,hj,hjk,rfl,kY,kJ,oM,hB,hM⟩:=hrel;have HM:=hide hM;have hz2:=zmr oM.row h (zfE j hM) hz;clear hM;obtain ⟨x0,x1,x2⟩:=zd kY;by_cases hlt:(j:Int) < k∧(j:Int) < 30
  ·obtain ⟨l1,l2⟩:=hlt;have l3:(j:Int) < min k 30:=by omega
   (go_wp2_with fail);refine (zf1 M2 _ oM.row hz2.n hz2.l hz2.s hz2.m (zgz j HM.out HRG.out)).mono ?_;rintro e w8 ⟨M3,rfl,o3,r3,b8⟩;have kY:=za kY b8;have kJ:=za kJ b8;have o3:=o3.lt (base':=w.heap.size) hB.size;have hB:=zc hB b8;have HR3:Hid (zbT (j+1) N.t M3.t):=hide ⟨_,HM.out,r3.r⟩;clear x0 x1 x2 b8 oM hz2;obtain ⟨x0,x1,x2⟩:=zd kY;have f0:=zf kY 0;have f1:=zf kY 1;have f2:=zf kY 2;have o4:=o3.out kY;have b4:=zak hB (R:=Y) (by have:=HYR.out; omega) (.slice M3.ba M3.bn M3.bc) (.slice M3.la M3.ln M3.lc) (.slice M3.sa M3.sn M3.sc);have kJ4:=ze kJ (zI (zI (zj (rb:=Y) 0 (.slice M3.ba M3.bn M3.bc)) (zj 1 (.slice M3.la M3.ln M3.lc))) (zj 2 (.slice M3.sa M3.sn M3.sc))) (by intro i e; cases e; have:=HYR.out; have:=HZR.out; omega);have kY4:=zZ (K:=fun W=>W.heap[Y]? = some (.cells #[.slice M3.ba M3.bn M3.bc,.slice M3.la M3.ln M3.lc,.slice M3.sa M3.sn M3.sc] 28)) kY (.slice M3.ba M3.bn M3.bc) (.slice M3.la M3.ln M3.lc) (.slice M3.sa M3.sn M3.sc) (fun wq kQ _=>kQ);have HO:=hide o4;have HB:=hide b4;have HKJ:=hide kJ4;have HKY:=hide kY4;clear o3 o4 b4 kJ4 kY4 hB kJ r3;go_wp2
   go_roundw
   case rel=>exact ⟨j+1,M3,by omega,.inr (by omega),by go_num,HKY.out,HKJ.out,HO.out,HB.out,HR3.out⟩
   case measure=>simp [intOf]; omega
  ·have hcj:(min k 30).toNat=j:=by omega
   have HC:Hid (zbT (min k 30).toNat N.t M2.t):=hide (by rw [hcj]; exact HM.out);obtain ⟨r0,r1,r2⟩:=zd kJ;have f0:=zf kJ 0;have f1:=zf kJ 1;have f2:=zf kJ 2;have ne1:¬R=Y:=by have:=HYR.out; have:=HZR.out; omega
   have ne2:¬Y=R:=by have:=HYR.out; have:=HZR.out; omega
   have HO:=hide (oM.out kJ);have HB:=hide (zak hB (R:=R) (by have:=HZR.out; omega) (.slice M2.ba M2.bn M2.bc) (.slice M2.la M2.ln M2.lc) (.slice M2.sa M2.sn M2.sc));have ht:¬(j:Int) < k∨((j:Int) < k∧¬(j:Int) < 30):=by omega
   have l3:¬(j:Int) < min k 30:=by omega
   clear oM kY kJ hB hz2 hcj hlt;rcases ht with ht | ⟨hu,ht⟩
   ·go_wp2;exact bodyPost_ret (v:=.agg #[.slice M2.ba M2.bn M2.bc,.slice M2.la M2.ln M2.lc,.slice M2.sa M2.sn M2.sc]) (by simp [results,Tryz.results7,go_sem, *]) rfl ⟨M2,rfl,HO.out,HC.out,HB.out⟩
   ·go_wp2;exact bodyPost_ret (v:=.agg #[.slice M2.ba M2.bn M2.bc,.slice M2.la M2.ln M2.lc,.slice M2.sa M2.sn M2.sc]) (by simp [results,Tryz.results7,go_sem, *]) rfl ⟨M2,rfl,HO.out,HC.out,HB.out⟩

theorem ok_rg {B:BR} (h:zu B=true):B.Rg:=by
 unfold zu at h;simp only [Bool.and_eq_true] at h;obtain ⟨-,-,-,hp,hf,hv,-⟩:=h;refine ⟨fun x hx=>zkG ((((zcp B.f).1 hf).1).1 x hx),fun r hr => ?_⟩;unfold zau at hv;simp only [Bool.and_eq_true,List.all_eq_true] at hv;have h1:=hv.1.1.2 r hr;unfold zbs at h1;simp only [Bool.and_eq_true] at h1;have ha:allOf ((B.ports.length:Int)).toNat≤63:=by
  unfold in3 at hp;simp only [Bool.and_eq_true,decide_eq_true_eq] at hp;rw [Int.toNat_natCast];rcases (show B.ports.length=1∨B.ports.length=2∨B.ports.length=3∨B.ports.length=4∨B.ports.length=5∨B.ports.length=6 by omega) with e | e | e | e | e | e <;> rw [e] <;> decide
 unfold in3 at h1;simp only [Bool.and_eq_true,decide_eq_true_eq] at h1;unfold VR.Rng I64;omega

end Go.Proofs.YtkaefmfopejbaaaGreat
