/-
  Packed: DrawNt6 SetNet DrawNt8.
-/
import Derived.Test.YtkcoehmpnkdinaaGreatPNK33
import Derived.Test.YtkcoehmpnkdinaaGreatPNStepStepS
namespace Go.Proofs.YtkcoehmpnkdinaaGreat
set_option maxRecDepth 100000
set_option maxHeartbeats 16000000
open Go.RowKit

section
open Go.RowKit

theorem zlR {B:BR} (h:zz B=true):∀x∈B.f,x.Rng:=fun x hx=>by
 have hf:=(zad h).2.2.2.2.1;exact zhi ((((zaP B.f).1 hf).1).1 x hx)

theorem zf7 {w:World} {base g n cap k:Nat} {e:TypeId} {xs:List Value} (h:w.ownsRow base e k (.slice (some ⟨g,0,none⟩) n cap) n xs) (j:Nat):w.frozen? ⟨g,j,none⟩=false:=by
 obtain ⟨-,⟨h,-⟩ | ⟨g',cap',cur,h,-,hh,-⟩⟩:=h
 ·cases h
 ·cases h;exact zi hh j

theorem zk4 (s:Int) (n:Nat):I64s (idsTo s n):=by
 intro z hz;obtain ⟨i,hi,rfl⟩:=List.mem_iff_getElem.1 hz;rw [zbE] at hi
 have:=zjv s n i hi
 rw [List.getElem?_eq_getElem (by rw [zbE]; exact hi)] at this;rw [Option.some.inj this];omega

theorem NOwn.goes {w w':World} {base:Nat} {M:NV} (h:NOwn w base M) {C:Nat} (hg:w.grownBy w' (some C)) (hC:C < base):NOwn w' base M:=by
 have ho:Only [C] w w':=⟨hg.os,hg.tape,hg.output,hg.size,fun k hk hn=>hg.block k hk (fun e=>hn (by cases e; simp))⟩;exact ⟨h.b.only ho (fun b hb hc=>by have:=(h.b.blk b hb).1; simp at hc; omega),zw h.l hg (fun b hb=>by cases hb; exact hC),zw h.s hg (fun b hb=>by cases hb; exact hC)⟩

structure DnSt (w wr:World) (C:Nat) (a0:Option Addr) (l0 c0:Nat) (z0:List Int) (X:Nat) (N:NV):Prop where
 res:wr.heap[w.heap.size]? = some (.cells #[.slice none 0 0,.slice none 0 0,.slice none 0 0] 31)
 box:wr.heap[X]? = some (.cells #[.slice N.ba N.bn N.bc,.slice N.la N.ln N.lc,.slice N.sa N.sn N.sc] 31)
 own:NOwn wr (w.heap.size+1) N
 went:Went w wr C a0 l0 c0 z0
 lt:C < w.heap.size
 xl:w.heap.size < X

section
variable {w wr w':World} {C:Nat} {a0:Option Addr} {l0 c0:Nat} {z0:List Int} {X:Nat} {N:NV}
theorem DnSt.base (h:DnSt w wr C a0 l0 c0 z0 X N):w.heap.size+1≤wr.heap.size:=Nat.succ_le_of_lt (Array.getElem?_eq_some_iff.1 h.res).1
theorem DnSt.later (h:DnSt w wr C a0 l0 c0 z0 X N) (hb:Below wr.heap.size wr w'):DnSt w w' C a0 l0 c0 z0 X N:=⟨za h.res hb,za h.box hb,h.own.below hb,h.went.made hb,h.lt,h.xl⟩
theorem DnSt.goes (h:DnSt w wr C a0 l0 c0 z0 X N) (wt:Went wr w' C a0 l0 c0 z0):DnSt w w' C a0 l0 c0 z0 X N :=
 ⟨ze h.res wt.grown (fun j e=>by cases e; exact Nat.ne_of_lt h.lt),ze h.box wt.grown (fun j e=>by cases e; exact Nat.ne_of_lt (Nat.lt_trans h.lt h.xl)),h.own.goes wt.grown (Nat.lt_succ_of_lt h.lt),h.went.trans wt,h.lt,h.xl⟩
theorem DnSt.turned (h:DnSt w wr C a0 l0 c0 z0 X N) {M:NV} (oM:NOwn wr (w.heap.size+1) M) (kQ:w'.heap[X]? = some (.cells #[.slice M.ba M.bn M.bc,.slice M.la M.ln M.lc,.slice M.sa M.sn M.sc] 31)) (gQ:wr.grownBy w' (some X)):DnSt w w' C a0 l0 c0 z0 X M :=
 ⟨ze h.res gQ (fun j e=>by cases e; exact Nat.ne_of_gt h.xl),kQ,oM.boxed h.box gQ,h.went.madeAt ((Below.refl w.heap.size wr).grown gQ (Nat.le_of_succ_le h.base) (fun k e=>by cases e; exact Nat.le_of_lt h.xl)) h.lt (Nat.le_refl _),h.lt,h.xl⟩
theorem DnSt.ports (h:DnSt w wr C a0 l0 c0 z0 X N) {i:Nat} {y:BV} (hy:N.bs[i]? = some y) (hn:0 < y.n):∃g,y.a=some ⟨g,0,none⟩∧w.heap.size+1≤g∧wr.ownsRow (w.heap.size+1) 79 8 (.slice (some ⟨g,0,none⟩) y.n y.c) y.n (ptF.all y.B.ports):=by
 have hO:=(h.own.b.item y (List.mem_of_getElem? hy)).ports;obtain ⟨g,hg,hb,-⟩:=zdC (F:=ptF) hO hn;exact ⟨g,hg,hb,by rw [← hg]; exact hO⟩
theorem DnSt.cost (h:DnSt w wr C a0 l0 c0 z0 X N) {i p:Nat} {y:BV} {x:PT} (hy:N.bs[i]? = some y) (hx:y.B.ports[p]? = some x) (hn:0 < y.n) {g:Nat} (hg:y.a=some ⟨g,0,none⟩) (k:Int):DnSt w (wr.setCell ⟨g,p*8+1,none⟩ (.int .i64 k)) C a0 l0 c0 z0 X { N with bs:=N.bs.set i { y with B:=costB y.B p x k } }:=by
 obtain ⟨g',hg',hb,hP⟩:=h.ports hy hn;rw [hg] at hg';cases hg';have hgs:wr.grownBy (wr.setCell ⟨g,p*8+1,none⟩ (.int .i64 k)) (some g):=zm _ _;exact ⟨ze h.res hgs (fun j e=>by cases e; omega),ze h.box hgs (fun j e=>by cases e; exact zN hP h.box (by decide) _ rfl),h.own.cost hy hx hg k,h.went.madeAt ((Below.refl w.heap.size wr).grown hgs (Nat.le_of_succ_le h.base) (fun k e=>by cases e; omega)) h.lt (Nat.le_refl _),h.lt,h.xl⟩
theorem zbG (h:DnSt w wr C a0 l0 c0 z0 X N) {i:Nat} {y:BV} (hy:N.bs[i]? = some y) {b off g:Nat} (hba:N.ba=some ⟨b,off,none⟩) (hga:y.a=some ⟨g,0,none⟩):wr.cell? ⟨X,0,none⟩=some (.slice (some ⟨b,off,none⟩) N.bn N.bc)∧wr.cell? ⟨b,off+i*11+2,none⟩=some (.slice (some ⟨g,0,none⟩) y.n y.c):=by
 obtain ⟨x0,-,-⟩:=zd h.box;rw [hba] at x0;obtain ⟨y',b',off',hy',ha',-,-,c2,-⟩:=br_at h.own.b.grow i (by have:=(List.getElem?_eq_some_iff.1 hy).1; have:=h.own.b.grow.size; omega);rw [hy] at hy';cases hy';rw [hba] at ha';cases ha';rw [hga] at c2;exact ⟨x0,c2⟩
end

theorem zcv {w:World} {N:NV} (h:zas w N) (ho:NetOk N.brs N.ls N.ss):N.bn≤6∧N.ln≤9∧N.sn≤40∧1≤N.bn:=by
 have h1:=ho.1.2.2;have h2:=ho.2.1.1;have h3:=ho.2.2.2.1;rw [zdS] at h1;have e1:=h.b.size;have e2:=h.l.size;have e3:=h.s.size;omega
theorem zh7 {w:World} {base:Nat} {N:NV} (h:NOwn w base N) (ho:NetOk N.brs N.ls N.ss) {i:Nat} {y:BV} (hy:N.bs[i]? = some y):y.n=y.B.ports.length∧1≤y.n∧y.n≤6:=by
 have h1:=(zD (F:=ptF) (h.b.item y (List.mem_of_getElem? hy)).ports).size;have h2:=(zad (ho.1.1 y.B (List.mem_of_getElem? (zd7 hy)))).2.2.2.1;unfold in3 at h2
 simp at h2
 omega

theorem zhw (C:Nat) (a0:Option Addr) (l0 c0:Nat) (z0:List Int) (most:Nat) (w:World) (hc:Cur w C a0 l0 c0 z0) (hmost:most≤900) :
  Calls Tryz.prog 50 #[.pointer (some ⟨C,0,none⟩),.int .i64 most] w fun e w'=>∃N:NV,e=.returned (.agg #[.slice N.ba N.bn N.bc,.slice N.la N.ln N.lc,.slice N.sa N.sn N.sc])∧NOwn w' (w.heap.size+1) N∧NetOk N.brs N.ls N.ss∧Went w w' C a0 l0 c0 z0:=by
 have hlt:=hc.lt;generalize hw0:w.alloc (Obj.cells #[.slice none 0 0,.slice none 0 0,.slice none 0 0] 31)=w0;have b0:=zb hw0;have k0:=zk hw0;have HZ0:Hid (w0.heap.size=w.heap.size+1):=hide (by rw [← hw0]; simp);have wn:=Went.start hc b0;have HCN:Hid (C≠w.heap.size):=hide (by omega);go_enter Tryz.func50,Tryz.ntmps50;go_wp2_with fail
 refine (zy C a0 l0 c0 z0 6 _ wn.cur (by omega)).mono ?_;rintro e w1 ⟨kx,rfl,kx0,kx1,-,wt⟩;have kx1:=kx1 (by omega);obtain ⟨nn,hnn⟩:∃nn:Nat,1+kx=(nn:Int):=⟨(1+kx).toNat,by omega⟩;have HN6:Hid (1≤nn∧nn≤6):=hide (by omega);have k0:=ze k0 wt.grown (fun j e=>by cases e; exact HCN.out);have HW1:Hid (w.heap.size+1≤w1.heap.size):=hide (by have:=wt.grown.size; have:=HZ0.out; omega);have wn:=wn.trans wt;clear wt hw0 b0 kx0 kx1;go_wp2_with fail
 try rw [hnn]
 clear hnn;refine (zy C a0 l0 c0 z0 4 _ wn.cur (by omega)).mono ?_;rintro e w2 ⟨px,rfl,px0,px1,-,wt⟩;have px1:=px1 (by omega);obtain ⟨pp,hpp⟩:∃pp:Nat,2+px=(pp:Int):=⟨(2+px).toNat,by omega⟩;have HP6:Hid (1≤pp∧pp≤6):=hide (by omega);have k0:=ze k0 wt.grown (fun j e=>by cases e; exact HCN.out);have HW2:Hid (w.heap.size+1≤w2.heap.size):=hide (by have:=wt.grown.size; have:=HW1.out; omega);have wn:=wn.trans wt;clear wt px0 px1;go_wp2_with fail
 try rw [hpp]
 clear hpp;refine (zfv C a0 l0 c0 z0 nn _ wn.cur (by have:=HN6.out; omega)).mono ?_;rintro e w3 ⟨s,ia,ic,hs0,hs7,rfl,oI,wt⟩;have HS:=hide (And.intro hs0 hs7);have k0:=ze k0 wt.grown (fun j e=>by cases e; exact HCN.out);have HW3:Hid (w.heap.size+1≤w3.heap.size):=hide (by have:=wt.grown.size; have:=HW2.out; omega);have HC2:Hid (C < w2.heap.size):=hide wn.cur.lt;have wn:=wn.trans wt;clear wt hs0 hs7;go_wp2_with fail
 refine (zd9 C a0 l0 c0 z0 nn pp _ wn.cur HN6.out.1 (by have:=HN6.out; omega) HP6.out.1 (by have:=HP6.out; omega)).mono ?_;rintro e w4 ⟨la,lc,ls,rfl,hLI,oL,wt⟩;have HOK0:=hide (zkm (s:=s) HN6.out HP6.out hLI);have HL9:=hide hLI.len;have k0:=ze k0 wt.grown (fun j e=>by cases e; exact HCN.out);have oI:=zw oI wt.grown (fun b hb=>by cases hb; exact HC2.out);have HW4:Hid (w.heap.size+1≤w4.heap.size):=hide (by have:=wt.grown.size; have:=HW3.out; omega);have wn:=wn.trans wt;clear wt hLI;go_wp2_with fail
 refine (zcS ia nn ic (idsTo s nn) (pp:Int) la ls.length lc ls _ (zcp (by rw [← zaF]; exact oI) (zk4 s nn)) (zD (F:=linkF) oL) (by have:=HL9.out; omega) (by have:=HN6.out; omega)).mono ?_;rintro e w5 ⟨N0,rfl,oN,hNI,hb5⟩;obtain ⟨hbrs,hls⟩:=hNI.yes HOK0.out;have HOKN:Hid (NetOk N0.brs N0.ls N0.ss):=hide (by
  have e1:N0.brs=upBs (idsTo s nn) (pp:Int):=hbrs;rw [e1,hls,oN.s.2.2.2];exact (zhz _ _ _).1 HOK0.out)
 generalize hwX:w5.alloc (Obj.cells #[.slice N0.ba N0.bn N0.bc,.slice N0.la N0.ln N0.lc,.slice N0.sa N0.sn N0.sc] 31)=wX;have bX:=zb hwX;have kX:=zk hwX;have st0:DnSt w wX C a0 l0 c0 z0 w5.heap.size N0:=⟨za (za k0 hb5) bX,kX,(oN.all.lt HW4.out).below bX,(wn.made hb5).made bX,hlt,by have:=hb5.size; have:=HW4.out; omega⟩;clear oN hNI hbrs hls hb5 bX kX k0 oI oL wn HOK0;generalize hXX:w5.heap.size=X at *;go_wp2_with fail
 clear hwX
 go_loopw [8,9] (fun v u9 wr=>∃(i:Nat) (N:NV),v=.int .i64 (i:Int)∧i≤N.bn∧NetOk N.brs N.ls N.ss∧DnSt w wr C a0 l0 c0 z0 X N) (fun v _ _=>7 - (intOf v).toNat)
 case atStart=>exact ⟨0,N0,rfl,Nat.zero_le _,HOKN.out,st0⟩
 case round =>
  clear st0;obtain ⟨i,N,rfl,hi,hok,st⟩:=hrel;have HOK:=hide hok;have HSZ:=hide (zcv st.own.row hok);have hi6:(i:Int)≤6:=by have:=HSZ.out; omega
  clear hok;obtain ⟨x0,x1,x2⟩:=zd st.box;by_cases hib:i < N.bn
  ·have hib':(i:Int) < (N.bn:Int):=by omega
   (go_wp2_with fail)
   go_loopw [9] (fun v wr=>∃(p:Nat) (M:NV),v=.int .i64 (p:Int)∧p≤6∧M.bn=N.bn∧NetOk M.brs M.ls M.ss∧DnSt w wr C a0 l0 c0 z0 X M) (fun v _=>7 - (intOf v).toNat)
   case atStart=>exact ⟨0,N,rfl,Nat.zero_le _,rfl,HOK.out,st⟩
   case round =>
    clear st x0 x1 x2 HOK;obtain ⟨p,N1,rfl,hp6,hbn,hok,st⟩:=hrel;have HOK:=hide hok;have HNB:=hide hbn;have hib1:i < N1.bn:=by omega
    obtain ⟨y,b,off,hy,hba,-,-,c2,-⟩:=br_at st.own.b.grow i hib1;obtain ⟨hyl,hy1,hy6⟩:=zh7 st.own hok hy;clear hok hbn;obtain ⟨x0,x1,x2⟩:=zd st.box;rw [hba] at x0;have i1:(0:Int)≤(i:Int):=by omega
    have i2:(i:Int) < (N1.bn:Int):=by omega
    by_cases hp:p < y.n
    ·obtain ⟨x,hx⟩:∃x,y.B.ports[p]? = some x:=⟨_,List.getElem?_eq_getElem (by omega)⟩;obtain ⟨g,hga,-,-⟩:=st.ports hy hy1;rw [hga] at c2;have i3:(0:Int)≤(p:Int):=by omega
     have i4:(p:Int) < (y.n:Int):=by omega
     have vv:Below wr.heap.size wr wr.drew:=zr (Below.refl _ _);(go_upto_region 10 with fail);clear x0 x1 x2 c2;generalize N1=N at *;refine wp_region_held_drew (S:=(fun W=>zcc W X 0 (.slice (some ⟨b,off,none⟩) N.bn N.bc)∧zcc W b (off+i*11+2) (.slice (some ⟨g,0,none⟩) y.n y.c))) (by kernel_rfl) ((by first | exact zbG st hy hba hga | exact zbG (st.later vv) hy hba hga | exact zbG st2 HY2.out hba hga)) (fun hHeld => ?_);refine kK 0 ?_;refine kK 1 ?_;refine kK 2 ?_;refine kK 3 ?_;refine kK 4 ?_;refine kK 5 ?_;refine kK 6 ?_;refine kK 7 ?_;refine kR 8 fun K hK => ?_
     go_simp;clear hHeld vv;generalize hwa:wr.alloc (Obj.cells #[.int .i64 1,.int .i64 1,.int .i64 2,.int .i64 5,.int .i64 20] 3)=wa;have ba:=zb hwa;have ka:=zk hwa;have hCa:C < wr.heap.size:=st.went.cur.lt;have vv:Below wa.heap.size wa wa.drew:=zr (Below.refl _ _);have st:=st.later (zc ba vv);have ka:=za ka vv;clear vv ba;generalize wa.drew=wd at *;(go_wp2_with fail);refine kO hK ((by first | exact zbG st hy hba hga | exact zbG (st.later vv) hy hba hga | exact zbG st2 HY2.out hba hga)) fun hHeld => ?_
     clear hK K;refine kR 9 fun K hK => ?_
     go_simp;clear hHeld;refine (zb6 C a0 l0 c0 z0 [1,1,2,5,20] _ _ _ st.went.cur hCa ka rfl (by simp) (by simp)).mono ?_;rintro e wz ⟨ck,hck,rfl,wt⟩;have HK:Hid (1≤ck∧ck≤1000):=hide (by simp at hck; omega);have st:=st.goes wt;clear wt ka hCa hck;generalize wz=wc2 at *;(go_wp2_with fail);refine kO hK ((by first | exact zbG st hy hba hga | exact zbG (st.later vv) hy hba hga | exact zbG st2 HY2.out hba hga)) fun hHeld => ?_
     clear hK K;refine kK 10 ?_;refine kK 11 ?_;refine kR 12 fun K hK => ?_
     clear hHeld;obtain ⟨g3,hga3,-,hP3⟩:=st.ports hy hy1;rw [hga] at hga3;cases hga3;obtain ⟨x',b',off',hx',ha',-,q1,-⟩:=pt_at (zD (F:=ptF) hP3) p hp;rw [hx] at hx';cases hx';cases ha';have fz:=zf7 hP3 (p*8+1);have HOK2:Hid (NetOk ({ N with bs:=N.bs.set i { y with B:=costB y.B p x ck } }:NV).brs ({ N with bs:=N.bs.set i { y with B:=costB y.B p x ck } }:NV).ls ({ N with bs:=N.bs.set i { y with B:=costB y.B p x ck } }:NV).ss):=hide (by
      show NetOk ((N.bs.set i { y with B:=costB y.B p x ck }).map BV.B) N.ls N.ss
      rw [List.map_set];exact ziC HOK.out (zd7 hy) hx HK.out)
     have st2:=st.cost hy hx hy1 hga ck;have HY2:Hid ((N.bs.set i { y with B:=costB y.B p x ck })[i]? = some { y with B:=costB y.B p x ck }):=hide (by rw [List.getElem?_set,if_pos rfl,if_pos (List.getElem?_eq_some_iff.1 hy).1]);rw [Nat.zero_add] at q1;clear hP3;go_simp;refine kO hK ((by first | exact zbG st hy hba hga | exact zbG (st.later vv) hy hba hga | exact zbG st2 HY2.out hba hga)) fun hHeld => ?_
     clear hK K;refine wpAnyH_done (by kernel_rfl) ?_ _;have HST:=hide st2;clear hHeld;go_wp2
     go_roundw
     case rel=>exact ⟨p+1,{ N with bs:=N.bs.set i { y with B:=costB y.B p x ck } },by go_num,by omega,HNB.out,HOK2.out,HST.out⟩
     case measure=>simp [intOf]; omega
    ·have hp':¬(p:Int) < (y.n:Int):=by omega
     have HST:=hide st;clear st;go_wp2
     go_roundw
     case rel=>exact ⟨i+1,N1,by go_num,by omega,HOK.out,HST.out⟩
     case measure=>simp [intOf]; omega
  ·have hib':¬(i:Int) < (N.bn:Int):=by omega
   (go_wp2_with fail);refine (zy C a0 l0 c0 z0 ((most:Int)+1) _ st.went.cur (by omega)).mono ?_;rintro e w6 ⟨mx,rfl,mx0,mx1,-,wt⟩;have mx1:=mx1 (by omega);obtain ⟨m0,rfl⟩:∃m0:Nat,mx=(m0:Int):=⟨mx.toNat,by omega⟩;have HM0:Hid (m0≤1000):=hide (by omega);have st6:=st.goes wt;clear wt st x0 x1 x2 mx0 mx1;(go_wp2_with fail)
   go_loopw [10] (fun v wr=>∃(m:Nat) (M:NV),v=.int .i64 (m:Int)∧m≤1000∧NetOk M.brs M.ls M.ss∧DnSt w wr C a0 l0 c0 z0 X M) (fun v _=>(intOf v).toNat)
   case atStart=>exact ⟨m0,N,rfl,HM0.out,HOK.out,st6⟩
   case round =>
    clear st6 HOK HSZ;obtain ⟨m,N1,rfl,hm,hok,st⟩:=hrel;have HOK:=hide hok;have HMM:=hide hm;have HSZ:=hide (zcv st.own.row hok);clear hok;by_cases hm1:0 < (m:Int)
    ·have vv:Below wr.heap.size wr wr.drew:=zr (Below.refl _ _);obtain ⟨x0,x1,x2⟩:=zd st.box;(go_upto_region 14 with fail);generalize N1=N at *;refine wp_region_held_drew (S:=(fun _=>True)) (by kernel_rfl) (trivial) (fun hHeld => ?_)
     repeat' first
     |
      with_reducible refine kLa ?_
      first
      |
       refine kLf 1 ?_;refine kK 1 ?_
      |
       refine kLf 5 ?_;refine kK 5 ?_
      |
       refine kLf 6 ?_;refine kK 6 ?_
      |
       refine kLf 7 ?_;refine kK 7 ?_
      |
       refine kLp [0,2] ?_
      |
       refine kLp [2] ?_
      |
       refine kLp [3] ?_
      |
       refine kLp [4] ?_
      |
       refine kLp [8] ?_
      |
       refine kLp [0,3] ?_
      |
       refine kLp [0] ?_
      |
       refine wpAnyH_done (by kernel_rfl) ?_ _;have HST:=hide st2;have hmb:(m:Int)≤1000:=by have:=HMM.out; omega
       clear hHeld;go_wp2
       go_roundw
       case rel=>exact ⟨m - 1,M,by rw [show ((m - 1:Nat):Int)=(m:Int) - 1 by omega],by omega,HOK2.out,HST.out⟩
       case measure=>simp [intOf]; omega
     |
      exact AllReadyH.nil
     |
      refine kLc 0 (fun K hK => ?_) ?_;go_simp;refine kO hK (trivial) fun hHeld => ?_
      clear hK K
     |
      refine kLc 2 (fun K hK => ?_) ?_;go_simp;refine kO hK (trivial) fun hHeld => ?_
      clear hK K
     |
      refine kLc 3 (fun K hK => ?_) ?_;go_simp;clear hHeld;have st:=st.later vv;clear vv x0 x1 x2;refine (zgF C a0 l0 c0 z0 N _ st.went.cur (by have:=HSZ.out; omega) (by have:=HSZ.out; omega) (by have:=HSZ.out; omega)).mono ?_;rintro e wz ⟨kd,ei,rfl,wt⟩;have st:=st.goes wt;clear wt;generalize wz=wc2 at *;obtain ⟨x0,x1,x2⟩:=zd st.box;(go_wp2_with fail);refine kO hK (trivial) fun hHeld => ?_
      clear hK K
     |
      refine kLc 4 (fun K hK => ?_) ?_;go_simp;clear hHeld x0 x1 x2;refine (zgf N kd ei _ st.own.row (by have:=HSZ.out; omega) (by have:=HSZ.out; omega) (by have:=HSZ.out; omega) (zgc st.own.row (fun B hB=>ok_sm (HOK.out.1.1 B hB))) (fun B hB=>zlR (HOK.out.1.1 B hB))).mono ?_;rintro e wz ⟨M,sq,rfl,oM,hst,hbz⟩;have HOK2:Hid (NetOk M.brs M.ls M.ss):=hide (zkS hst HOK.out);have oM:=oM.lt (st.base);have st:=st.later hbz;clear hbz hst;generalize wz=wc3 at *;(go_wp2_with fail);refine kO hK (trivial) fun hHeld => ?_
      clear hK K
     |
      refine kLc 8 (fun K hK => ?_) ?_;clear hHeld;obtain ⟨t0,t1,t2⟩:=zd st.box;have f0:=zi st.box 0;have f1:=zi st.box 1;have f2:=zi st.box 2;go_simp;refine zaQ (K:=K _) st.box _ _ _ (fun wq kQ gQ => ?_);have st2:=st.turned oM kQ gQ;clear t0 t1 t2 f0 f1 f2 kQ gQ oM;refine kO hK (trivial) fun hHeld => ?_
      clear hK K
    ·obtain ⟨x0,x1,x2⟩:=zd st.box;obtain ⟨r0,r1,r2⟩:=zd st.res;have f0:=zi st.res 0;have f1:=zi st.res 1;have f2:=zi st.res 2;have hm1':¬0 < (m:Int):=hm1;(go_upto_region 15 with fail);have kQ:=zaQ (K:=fun V=>V.heap[w.heap.size]? = some (.cells #[.slice N1.ba N1.bn N1.bc,.slice N1.la N1.ln N1.lc,.slice N1.sa N1.sn N1.sc] 31)) st.res (.slice N1.ba N1.bn N1.bc) (.slice N1.la N1.ln N1.lc) (.slice N1.sa N1.sn N1.sc) (fun _ k _=>k);have oQ:=st.own.out st.res;have gQ:=zaQ (K:=fun V=>wr.grownBy V (some w.heap.size)) st.res (.slice N1.ba N1.bn N1.bc) (.slice N1.la N1.ln N1.lc) (.slice N1.sa N1.sn N1.sc) (fun _ _ k=>k);have HWQ:=hide (st.went.madeAt ((Below.refl w.heap.size wr).grown gQ (Nat.le_of_succ_le st.base) (fun k e=>by cases e; exact Nat.le_refl _)) hlt (Nat.le_refl _));have HOQ:=hide oQ;obtain ⟨q0,q1,q2⟩:=zd kQ;have p0:(wr.setCell ⟨w.heap.size,0,none⟩ (.slice N1.ba N1.bn N1.bc)).cell? ⟨w.heap.size,0,none⟩=some (.slice N1.ba N1.bn N1.bc):=World.cell?_setCell_same' _ _ _ (by rw [r0]; rfl);have p1:((wr.setCell ⟨w.heap.size,0,none⟩ (.slice N1.ba N1.bn N1.bc)).setCell ⟨w.heap.size,1,none⟩ (.slice N1.la N1.ln N1.lc)).cell? ⟨w.heap.size,1,none⟩=some (.slice N1.la N1.ln N1.lc):=by
      have k1:=zu (j:=1) (zu (j:=0) st.res (.slice N1.ba N1.bn N1.bc)) (.slice N1.la N1.ln N1.lc);exact (zd (c0:=.slice N1.ba N1.bn N1.bc) (c1:=.slice N1.la N1.ln N1.lc) (c2:=.slice none 0 0) (by simpa using k1)).2.1
     clear oQ gQ kQ st;go_wp2;exact bodyPost_ret (v:=.agg #[.slice N1.ba N1.bn N1.bc,.slice N1.la N1.ln N1.lc,.slice N1.sa N1.sn N1.sc]) (by simp [results,Tryz.results50,go_sem, *]) rfl ⟨N1,rfl,HOQ.out,HOK.out,HWQ.out⟩

end

theorem zfC {B:BR} (h:zz B=true) {p:Nat} {y:PT} (hy:B.ports[p]? = some y):ptOk y=true∧p < 6∧B.ports.length≤6:=by
 have h1:=(zad h).1;have h2:=(zad h).2.2.2.1;unfold in3 at h2;simp only [Bool.and_eq_true,decide_eq_true_eq] at h2
 have:=(List.getElem?_eq_some_iff.1 hy).1
 exact ⟨List.all_eq_true.1 h1 y (List.mem_of_getElem? hy),by omega,by omega⟩

section
open Go.RowKit

structure zdu (N:NV):Prop where
 bn:N.bn≤6
 ln:N.ln≤10
 sn:N.sn≤41
 b:∀B∈N.brs,B.Sm∧B.Rg
 l:∀x∈N.ls,x.Rng

theorem zlH {w:World} {N:NV} (h:zas w N) (ho:NetOk N.brs N.ls N.ss):zdu N where
 bn:=(zcv h ho).1
 ln:=Nat.le_trans (zcv h ho).2.1 (by decide)
 sn:=Nat.le_trans (zcv h ho).2.2.1 (by decide)
 b:=fun B hB=>⟨ok_sm (ho.1.1 B hB),ok_rg (ho.1.1 B hB)⟩
 l:=fun x hx=>by
  obtain ⟨⟨-,u,v,hu,hv,-⟩,-⟩:=ho.2.1.2 x hx;obtain ⟨i,j,A,ea,ep,hA,hpA⟩:=za0 hu;obtain ⟨i2,j2,D,eb,eq,hD,hpD⟩:=za0 hv;have h1:=(List.getElem?_eq_some_iff.1 hA).1;have h2:=(List.getElem?_eq_some_iff.1 hD).1;have h3:=zfC (ho.1.1 A (List.mem_of_getElem? hA)) hpA;have h4:=zfC (ho.1.1 D (List.mem_of_getElem? hD)) hpD;have h6:=ho.1.2.2.2;unfold LK.Rng I64;omega

theorem zlI {B:BR} (h:FewB B):B.Sm∧B.Rg:=by
 obtain ⟨pp,hf,hp⟩:=h.v;have h1:=h.pl;have h2:=h.fl;have h3:=hf.len;have h4:=hf.own;exact ⟨⟨by omega,by omega,by omega,by omega⟩,h.fr,fun r hr=>(hf.rows r hr).1⟩

def flipB (B:BR) (x:PT) (k:Bool):BR:={ B with ports:=B.ports.set 0 { x with up:=k } }

theorem BOs.typedL {w w':World} {base:Nat} {ao:Option Addr} {n cap:Nat} {l:List BV} (h:BOs w base ao n cap l) {base2 n2:Nat} {v2:Value} {xs2:List Value} (h2:w.ownsRow base2 44 4 v2 n2 xs2) (hg:w.grownBy w' v2.ownBlock):BOs w' base ao n cap l :=
 ⟨zC h.row h2 (by decide) hg,fun x hx=>⟨zC (h.item x hx).ports h2 (by decide) hg,zC (h.item x hx).f h2 (by decide) hg,⟨zC (h.item x hx).v.rows h2 (by decide) hg,zC (h.item x hx).v.own h2 (by decide) hg,(h.item x hx).v.i64⟩⟩,h.apart⟩

theorem NOwn.flip {w:World} {base:Nat} {M:NV} (h:NOwn w base M) {i:Nat} {y:BV} {x:PT} (hy:M.bs[i]? = some y) (hx:y.B.ports[0]? = some x) {g:Nat} (hg:y.a=some ⟨g,0,none⟩) (k:Bool) :
  NOwn (w.setCell ⟨g,0,none⟩ (.bool k)) base { M with bs:=M.bs.set i { y with B:=flipB y.B x k } }:=by
 have hO:=h.b.item y (List.mem_of_getElem? hy);have hports:w.ownsRow base 79 8 (.slice (some ⟨g,0,none⟩) y.n y.c) y.n (ptF.all y.B.ports):=by rw [← hg]; exact hO.ports
 obtain ⟨pre,post,e1,e2,e3⟩:=zcj (y:={ y with B:=flipB y.B x k }) hy;obtain ⟨pr,po,f1,f2,f3⟩:=zcj (y:={ x with up:=k }) hx;have hgs:w.grownBy (w.setCell ⟨g,0,none⟩ (.bool k)) (some g):=zm _ _;have hgs2:w.grownBy (w.setCell ⟨g,0,none⟩ (.bool k)) (Value.slice (some ⟨g,0,none⟩) y.n y.c).ownBlock:=hgs;have hNew:(w.setCell ⟨g,0,none⟩ (.bool k)).ownsRow base 79 8 (.slice (some ⟨g,0,none⟩) y.n y.c) y.n (ptF.all (y.B.ports.set 0 { x with up:=k })):=by
  rw [← f3];rw [f1] at hports;have e0:pr=[]:=List.length_eq_zero_iff.1 f2.symm;subst e0;have h9:=zK (F:=ptF) (pre:=[]) (x':={ x with up:=k }) hports 0 (.bool k) (by decide) rfl
  simp at h9
  exact h9
 have hrow:(w.setCell ⟨g,0,none⟩ (.bool k)).ownsRow base 61 11 (.slice M.ba M.bn M.bc) M.bn (brF.all M.bs):=zC h.b.row hports (by decide) hgs2;have hall:brF.all (M.bs.set i { y with B:=flipB y.B x k })=brF.all M.bs:=by
  rw [← e3]
  conv=>rhs; rw [e1]
  rw [brF.all_append,brF.all_append,brF.all_cons,brF.all_cons]
  rfl
 refine ⟨?_,zC h.l hports (by decide) hgs2,zC h.s hports (by decide) hgs2⟩
 show BOs _ base M.ba M.bn M.bc (M.bs.set i { y with B:=flipB y.B x k })
 have hb:=h.b;rw [e1] at hb;have hit:({ y with B:=flipB y.B x k }:BV).Own (w.setCell ⟨g,0,none⟩ (.bool k)) base:=by
  refine ⟨?_,zC hO.f hports (by decide) hgs2,⟨zC hO.v.rows hports (by decide) hgs2,zC hO.v.own hports (by decide) hgs2,hO.v.i64⟩⟩
  show (w.setCell ⟨g,0,none⟩ (.bool k)).ownsRow base 79 8 (.slice y.a y.n y.c) y.n (ptF.all (y.B.ports.set 0 { x with up:=k }))
  rw [hg];exact hNew
 have hO3:Only [g] w (w.setCell ⟨g,0,none⟩ (.bool k)):=Only.set w g _ _;rw [← e3] at hall ⊢;refine hb.turn (bs:=[g]) (fun z hz b hb1 hb2=>zdR hb.apart z hz b hb1 hb2) hO3 (fun b hb'=>.inl ?_) (by rw [hall]; exact hrow) hit;rw [List.mem_singleton] at hb';rw [hb'];exact zb5.2 (.inl (by rw [hg]; simp [blkL]))

theorem BOs.lay {w0 w w':World} {base g n cap:Nat} {pre post:List BV} {x y:BV} (h0:BOs w0 base (some ⟨g,0,none⟩) n cap (pre++x::post)) (h:BOs w base (some ⟨g,0,none⟩) n cap (pre++x::post)) (hy:y.Own w w0.heap.size) (hbs:base≤w0.heap.size) (hg:w.grownBy w' (some g))
  (hr:w'.ownsRow base 61 11 (.slice (some ⟨g,0,none⟩) n cap) n (brF.all (pre++y::post))):BOs w' base (some ⟨g,0,none⟩) n cap (pre++y::post):=by
 have O:Only [g] w w':=by have:=Only.of_grown (ao:=some ⟨g,0,none⟩) (n:=n) (c:=cap) hg; simpa [blkL] using this
 have hgl:g < w0.heap.size:=(h0.row.lt g rfl).2;refine h.turn (bs:=[g]) ?_ O (fun b hb'=>.inr (by simpa [blkL] using hb')) hr ((hy.only O (fun b hb' hc=>by have:=(hy.blk b hb').1; simp at hc; omega)).lt hbs);intro z hz b hb1 hb2;have h1:=((h0.item z (zf2 hz)).blk b hb1).2;have h2:=(hy.blk b hb2).1;omega

section
variable {w w0 wr w':World} {C:Nat} {a0:Option Addr} {l0 c0:Nat} {z0:List Int} {X:Nat} {N:NV}
theorem DnSt.put (h0:DnSt w w0 C a0 l0 c0 z0 X N) (h:DnSt w wr C a0 l0 c0 z0 X N) {g:Nat} {pre post:List BV} {x y:BV} (hba:N.ba=some ⟨g,0,none⟩) (hsp:N.bs=pre++x::post) (hy:y.Own wr w0.heap.size) (hg:wr.grownBy w' (some g)) (hr:w'.ownsRow (w.heap.size+1) 61 11 (.slice (some ⟨g,0,none⟩) N.bn N.bc) N.bn (brF.all (pre++y::post))):DnSt w w' C a0 l0 c0 z0 X { N with bs:=pre++y::post }:=by
 have ob0:BOs w0 (w.heap.size+1) (some ⟨g,0,none⟩) N.bn N.bc (pre++x::post):=by have:=h0.own.b; rw [hba,hsp] at this; exact this
 have ob:BOs wr (w.heap.size+1) (some ⟨g,0,none⟩) N.bn N.bc (pre++x::post):=by have:=h.own.b; rw [hba,hsp] at this; exact this
 have hp:=ob0.lay ob hy h0.base hg hr;have hrw:=ob.row;have hg1:=(hrw.lt g rfl).1;have ol:=zC h.own.l hrw (by decide) (v2:=.slice (some ⟨g,0,none⟩) N.bn N.bc) hg;have os:=zC h.own.s hrw (by decide) (v2:=.slice (some ⟨g,0,none⟩) N.bn N.bc) hg;exact ⟨ze h.res hg (fun k hk=>zN hrw h.res (by decide) k hk),ze h.box hg (fun k hk=>zN hrw h.box (by decide) k hk),⟨by rw [hba]; exact hp,ol,os⟩,h.went.madeAt ((Below.refl w.heap.size wr).grown hg (Nat.le_of_succ_le h.base) (fun k e=>by cases e; omega)) h.lt (Nat.le_refl _),h.lt,h.xl⟩

theorem DnSt.pushL (h:DnSt w wr C a0 l0 c0 z0 X N) {w2:World} {x:LK} (hg:wr.grownBy w2 (Value.slice N.la N.ln N.lc).ownBlock) {ao':Option Addr} {cap':Nat} (hr:w2.ownsRow (w.heap.size+1) 44 4 (.slice ao' (N.ln+1) cap') (N.ln+1) (linkF.all (N.ls++[x]))) :
  w2.heap[X]? = some (.cells #[.slice N.ba N.bn N.bc,.slice N.la N.ln N.lc,.slice N.sa N.sn N.sc] 31)∧DnSt w (w2.setCell ⟨X,1,none⟩ (.slice ao' (N.ln+1) cap')) C a0 l0 c0 z0 X { N with la:=ao',ln:=N.ln+1,lc:=cap',ls:=N.ls++[x] }:=by
 have hrw:=h.own.l;have k1:=ze h.box hg (fun k hk=>zN hrw h.box (by decide) k hk);have r1:=ze h.res hg (fun k hk=>zN hrw h.res (by decide) k hk);have ob:=h.own.b.typedL hrw hg;have oo:=zC h.own.s hrw (by decide) hg;have hgx:w2.grownBy (w2.setCell ⟨X,1,none⟩ (.slice ao' (N.ln+1) cap')) (some X):=zm 1 _;have nb:=NOwn.boxed (M:={ N with la:=ao',ln:=N.ln+1,lc:=cap',ls:=N.ls++[x] }) ⟨ob,hr,oo⟩ k1 hgx;have b1:=(Below.refl w.heap.size wr).grown hg (Nat.le_of_succ_le h.base) (fun k hk=>Nat.le_of_succ_le (hrw.lt k hk).1);have b2:=b1.grown hgx (by have:=zcB r1; omega) (fun k e=>by cases e; exact Nat.le_of_lt h.xl);refine ⟨k1,ze r1 hgx (fun j e=>by cases e; exact Nat.ne_of_gt h.xl), ?_,nb,h.went.madeAt b2 h.lt (Nat.le_refl _),h.lt,h.xl⟩
 have:=zu (j:=1) k1 (.slice ao' (N.ln+1) cap')
 simpa using this

theorem DnSt.pushS (h:DnSt w wr C a0 l0 c0 z0 X N) {w2:World} {x:SY} (hg:wr.grownBy w2 (Value.slice N.sa N.sn N.sc).ownBlock) {ao':Option Addr} {cap':Nat} (hr:w2.ownsRow (w.heap.size+1) 74 7 (.slice ao' (N.sn+1) cap') (N.sn+1) (sayF.all (N.ss++[x]))) :
  w2.heap[X]? = some (.cells #[.slice N.ba N.bn N.bc,.slice N.la N.ln N.lc,.slice N.sa N.sn N.sc] 31)∧DnSt w (w2.setCell ⟨X,2,none⟩ (.slice ao' (N.sn+1) cap')) C a0 l0 c0 z0 X { N with sa:=ao',sn:=N.sn+1,sc:=cap',ss:=N.ss++[x] }:=by
 have hrw:=h.own.s;have k1:=ze h.box hg (fun k hk=>zN hrw h.box (by decide) k hk);have r1:=ze h.res hg (fun k hk=>zN hrw h.res (by decide) k hk);have ob:=h.own.b.typed hrw hg;have oo:=zC h.own.l hrw (by decide) hg;have hgx:w2.grownBy (w2.setCell ⟨X,2,none⟩ (.slice ao' (N.sn+1) cap')) (some X):=zm 2 _;have nb:=NOwn.boxed (M:={ N with sa:=ao',sn:=N.sn+1,sc:=cap',ss:=N.ss++[x] }) ⟨ob,oo,hr⟩ k1 hgx;have b1:=(Below.refl w.heap.size wr).grown hg (Nat.le_of_succ_le h.base) (fun k hk=>Nat.le_of_succ_le (hrw.lt k hk).1);have b2:=b1.grown hgx (by have:=zcB r1; omega) (fun k e=>by cases e; exact Nat.le_of_lt h.xl);refine ⟨k1,ze r1 hgx (fun j e=>by cases e; exact Nat.ne_of_gt h.xl), ?_,nb,h.went.madeAt b2 h.lt (Nat.le_refl _),h.lt,h.xl⟩
 have:=zu (j:=2) k1 (.slice ao' (N.sn+1) cap')
 simpa using this

theorem DnSt.flip (h:DnSt w wr C a0 l0 c0 z0 X N) {i:Nat} {y:BV} {x:PT} (hy:N.bs[i]? = some y) (hx:y.B.ports[0]? = some x) (hn:0 < y.n) {g:Nat} (hg:y.a=some ⟨g,0,none⟩) (k:Bool):DnSt w (wr.setCell ⟨g,0,none⟩ (.bool k)) C a0 l0 c0 z0 X { N with bs:=N.bs.set i { y with B:=flipB y.B x k } }:=by
 obtain ⟨g',hg',hb,hP⟩:=h.ports hy hn;rw [hg] at hg';cases hg';have hgs:wr.grownBy (wr.setCell ⟨g,0,none⟩ (.bool k)) (some g):=zm _ _;exact ⟨ze h.res hgs (fun j e=>by cases e; omega),ze h.box hgs (fun j e=>by cases e; exact zN hP h.box (by decide) _ rfl),h.own.flip hy hx hg k,h.went.madeAt ((Below.refl w.heap.size wr).grown hgs (Nat.le_of_succ_le h.base) (fun k e=>by cases e; omega)) h.lt (Nat.le_refl _),h.lt,h.xl⟩

theorem zgr (st:DnSt w wr C a0 l0 c0 z0 X N) :
  (wr.setCell ⟨w.heap.size,0,none⟩ (.slice N.ba N.bn N.bc)).cell? ⟨w.heap.size,0,none⟩=some (.slice N.ba N.bn N.bc)∧((wr.setCell ⟨w.heap.size,0,none⟩ (.slice N.ba N.bn N.bc)).setCell ⟨w.heap.size,1,none⟩ (.slice N.la N.ln N.lc)).cell? ⟨w.heap.size,1,none⟩=some (.slice N.la N.ln N.lc) ∧
  ∃VV,VV=(((wr.setCell ⟨w.heap.size,0,none⟩ (.slice N.ba N.bn N.bc)).setCell ⟨w.heap.size,1,none⟩ (.slice N.la N.ln N.lc)).setCell ⟨w.heap.size,2,none⟩ (.slice N.sa N.sn N.sc))∧VV.heap[w.heap.size]? = some (.cells #[.slice N.ba N.bn N.bc,.slice N.la N.ln N.lc,.slice N.sa N.sn N.sc] 31)∧NOwn VV (w.heap.size+1) N∧Went w VV C a0 l0 c0 z0:=by
 obtain ⟨r0,-,-⟩:=zd st.res;have gQ:=zaQ (K:=fun V=>wr.grownBy V (some w.heap.size)) st.res (.slice N.ba N.bn N.bc) (.slice N.la N.ln N.lc) (.slice N.sa N.sn N.sc) (fun _ _ k=>k);refine ⟨World.cell?_setCell_same' _ _ _ (by rw [r0]; rfl), ?_,_,rfl,zaQ (K:=fun V=>V.heap[w.heap.size]? = some (.cells #[.slice N.ba N.bn N.bc,.slice N.la N.ln N.lc,.slice N.sa N.sn N.sc] 31)) st.res _ _ _ (fun _ k _=>k),st.own.out st.res,st.went.madeAt ((Below.refl w.heap.size wr).grown gQ (Nat.le_of_succ_le st.base) (fun k e=>by cases e; exact Nat.le_refl _)) st.lt (Nat.le_refl _)⟩;have k1:=zu (j:=1) (zu (j:=0) st.res (.slice N.ba N.bn N.bc)) (.slice N.la N.ln N.lc);exact (zd (c0:=.slice N.ba N.bn N.bc) (c1:=.slice N.la N.ln N.lc) (c2:=.slice none 0 0) (by simpa using k1)).2.1
end

theorem zdY (C:Nat) (a0:Option Addr) (l0 c0:Nat) (z0:List Int) (most:Nat) (w:World) (hc:Cur w C a0 l0 c0 z0) (hmost:most≤900) :
  Calls Tryz.prog 28 #[.pointer (some ⟨C,0,none⟩),.int .i64 most] w fun e w'=>∃N:NV,e=.returned (.agg #[.slice N.ba N.bn N.bc,.slice N.la N.ln N.lc,.slice N.sa N.sn N.sc])∧NOwn w' (w.heap.size+1) N∧zdu N∧Went w w' C a0 l0 c0 z0:=by
 have hlt:=hc.lt;generalize hw0:w.alloc (Obj.cells #[.slice none 0 0,.slice none 0 0,.slice none 0 0] 31)=w0;have b0:=zb hw0;have k0:=zk hw0;have HZ0:Hid (w0.heap.size=w.heap.size+1):=hide (by rw [← hw0]; simp);have wn:=Went.start hc b0;have HCN:Hid (C≠w.heap.size):=hide (by omega);go_enter Tryz.func28,Tryz.ntmps28;go_wp2_with fail
 refine (zhw C a0 l0 c0 z0 most _ wn.cur hmost).mono ?_;rintro e w5 ⟨N,rfl,oN,hok,wt⟩;have HOK:=hide hok;have HFW:=hide (zlH oN.row hok);have HSZ:=hide (zcv oN.row hok);have k0:=ze k0 wt.grown (fun j e=>by cases e; exact HCN.out);have HW4:Hid (w.heap.size+1≤w5.heap.size):=hide (by have:=wt.grown.size; have:=HZ0.out; omega);have oN:=oN.lt (show w.heap.size+1≤w0.heap.size+1 by have:=HZ0.out; omega);have wn:=wn.trans wt;generalize hwX:w5.alloc (Obj.cells #[.slice N.ba N.bn N.bc,.slice N.la N.ln N.lc,.slice N.sa N.sn N.sc] 31)=wc;have bX:=zb hwX;have kX:=zk hwX;have st:DnSt w wc C a0 l0 c0 z0 w5.heap.size N:=⟨za k0 bX,kX,oN.below bX,wn.made bX,hlt,by have:=HW4.out; omega⟩;clear oN wt wn bX kX k0 hok hw0 b0;generalize hXX:w5.heap.size=X at *;have hb0:((N.bn:Int) == 0)=false:=by have:=HSZ.out; simp; omega
 obtain ⟨x0,x1,x2⟩:=zd st.box;go_wp2_with fail
 clear hwX;refine (zy C a0 l0 c0 z0 (N.bn:Int) _ st.went.cur (by have:=HSZ.out; omega)).mono ?_;rintro e w6 ⟨kx,rfl,kx0,kx1,-,wt⟩;obtain ⟨kk,rfl⟩:∃kk:Nat,kx=(kk:Int):=⟨kx.toNat,by omega⟩;have hkk:kk < N.bn:=by have:=kx1 (by have:=HSZ.out; omega); omega
 have st:=st.goes wt;clear wt x0 x1 x2 kx0 kx1;go_wp2_with fail
 refine (zy C a0 l0 c0 z0 20 _ st.went.cur (by omega)).mono ?_;rintro e wc ⟨sx,rfl,-,-,-,wt⟩;have st:=st.goes wt;clear wt hXX;by_cases e0:sx=0
 ·subst e0;have vv:Below wc.heap.size wc wc.drew:=zr (Below.refl _ _);obtain ⟨x0,x1,x2⟩:=zd st.box;obtain ⟨y,hy⟩:∃y,N.bs[kk]? = some y:=⟨_,List.getElem?_eq_getElem (by have:=st.own.b.grow.size; omega)⟩;obtain ⟨g,hba⟩:=zbO st.own.b.row (show 0 < N.bn by omega);obtain ⟨pre,post,hsp,hpl,-⟩:=zc7 hy;have HBA:=hide hba;have HSP:=hide hsp;have HPL:=hide hpl;have HAT:Hid ((pre++y::post)[kk]? = some y):=hide (by rw [← hsp]; exact hy);rw [hba] at x0;clear hba hsp hpl hy;have i1:(0:Int)≤(kk:Int):=by omega
  have i2:(kk:Int) < (N.bn:Int):=by omega
  (go_upto_region 7 with fail);clear x0 x1 x2;refine wp_region_held_drew (S:=(fun W=>zcc W X 0 (.slice (some ⟨g,0,none⟩) N.bn N.bc))) (by kernel_rfl) ((by have h:=(zd (st.later vv).box).1; rw [HBA.out] at h; exact h)) (fun hHeld => ?_);have st:=st.later vv;clear vv;generalize wc.drew=wd at *;refine kK 0 ?_;refine kK 1 ?_;refine kK 2 ?_;refine kK 3 ?_;refine kR 4 fun K hK => ?_
  go_simp;clear hHeld;have HS0:=hide st;refine (ziL C a0 l0 c0 z0 _ st.went.cur).mono ?_;rintro e wz ⟨a2,n2,c2,fa2,fn2,fc2,ra2,rn2,rc2,oa2,on2,oc2,B2,rfl,oB,hFB,wt⟩;have HFB:=hide hFB;have st:=st.goes wt;have hrow:wz.ownsRow (w.heap.size+1) 61 11 (.slice (some ⟨g,0,none⟩) N.bn N.bc) N.bn (brF.all (pre++y::post)):=by rw [← HBA.out,← HSP.out]; exact st.own.b.row
  obtain ⟨⟨t0,t1,t2,t3,t4,t5,t6,t7,t8,t9,t10⟩,f0,f1,f2,f3,f4,f5,f6,f7,f8,f9,f10⟩:=zaf hrow HAT.out;clear wt hFB;(go_wp2_with fail);refine kO hK ((by have h:=(zd st.box).1; rw [HBA.out] at h; exact h)) fun hHeld => ?_
  clear hK K;refine kK 5 ?_;refine kR 6 fun K hK => ?_
  go_simp;refine zaU (⟨a2,n2,c2,fa2,fn2,fc2,ra2,rn2,rc2,oa2,on2,oc2,B2⟩:BV) HPL.out (K:=K _) hrow (fun wq hq hgq => ?_);have st:=DnSt.put (y:=(⟨a2,n2,c2,fa2,fn2,fc2,ra2,rn2,rc2,oa2,on2,oc2,B2⟩:BV)) HS0.out st HBA.out HSP.out oB hgq hq;refine kO hK ((by have h:=(zd st.box).1; rw [HBA.out] at h; exact h)) fun hHeld => ?_
  clear hK K;refine wpAnyH_done (by kernel_rfl) ?_ _;clear hHeld hq hgq hrow;have HFW:Hid (zdu ({ N with bs:=pre++(⟨a2,n2,c2,fa2,fn2,fc2,ra2,rn2,rc2,oa2,on2,oc2,B2⟩:BV)::post }:NV)):=hide ⟨HFW.out.bn,HFW.out.ln,HFW.out.sn,fun B hB=>by
   have hB:B∈(pre++(⟨a2,n2,c2,fa2,fn2,fc2,ra2,rn2,rc2,oa2,on2,oc2,B2⟩:BV)::post).map BV.B:=hB;rw [List.map_append,List.map_cons] at hB;rcases List.mem_append.1 hB with h1 | h1
   ·exact HFW.out.b B (by unfold NV.brs; rw [HSP.out,List.map_append]; exact List.mem_append_left _ h1)
   ·rcases List.mem_cons.1 h1 with rfl | h1
    ·exact zlI HFB.out
    ·exact HFW.out.b B (by unfold NV.brs; rw [HSP.out,List.map_append,List.map_cons]; exact List.mem_append_right _ (List.mem_cons_of_mem _ h1)),HFW.out.l⟩
  clear HAT HSP HBA HPL HFB oB HS0;generalize ({ N with bs:=pre++(⟨a2,n2,c2,fa2,fn2,fc2,ra2,rn2,rc2,oa2,on2,oc2,B2⟩:BV)::post }:NV)=M at *;obtain ⟨x0,x1,x2⟩:=zd st.box;obtain ⟨r0,r1,r2⟩:=zd st.res;have f0:=zi st.res 0;have f1:=zi st.res 1;have f2:=zi st.res 2;obtain ⟨p0,p1,VV,hVV,kQ,oQ,wQ⟩:=zgr st;subst hVV;obtain ⟨q0,q1,q2⟩:=zd kQ;have HOQ:=hide oQ;have HWQ:=hide wQ;clear oQ wQ kQ st;go_wp2;exact bodyPost_ret (v:=.agg #[.slice M.ba M.bn M.bc,.slice M.la M.ln M.lc,.slice M.sa M.sn M.sc]) (by simp [results,Tryz.results28,go_sem, *]) rfl ⟨M,rfl,HOQ.out,HFW.out,HWQ.out⟩
 by_cases e1:sx=1
 ·subst e1;have vv:Below wc.heap.size wc wc.drew:=zr (Below.refl _ _);obtain ⟨x0,x1,x2⟩:=zd st.box;(go_upto_region 9 with fail);clear x0 x1 x2;refine wp_region_held_drew (S:=(fun _=>True)) (by kernel_rfl) (trivial) (fun hHeld => ?_);have st:=st.later vv;clear vv;generalize wc.drew=wd at *;obtain ⟨x0,x1,x2⟩:=zd st.box
  repeat' first
  |
   with_reducible refine kLa ?_
   first
   |
    refine kLf 0 ?_;refine kK 0 ?_
   |
    refine kLf 2 ?_;refine kK 2 ?_
   |
    refine kLf 4 ?_;refine kK 4 ?_
   |
    refine kLf 6 ?_;refine kK 6 ?_
   |
    refine kLf 9 ?_;refine kK 9 ?_
   |
    refine kLf 8 ?_;refine kK 8 ?_
   |
    refine kLf 11 ?_;refine kK 11 ?_
   |
    refine kLf 14 ?_;refine kK 14 ?_
   |
    refine kLp [1,3] ?_
   |
    refine kLp [3] ?_
   |
    refine kLp [5] ?_
   |
    refine kLp [7] ?_
   |
    refine kLp [10] ?_
   |
    refine kLp [12] ?_
   |
    refine kLp [13] ?_
   |
    refine kLp [15] ?_
   |
    refine kLp [1,5] ?_
   |
    refine kLp [1,7] ?_
   |
    refine kLp [1,10] ?_
   |
    refine kLp [1,12] ?_
   |
    refine kLp [1] ?_
   |
    refine wpAnyH_done (by kernel_rfl) ?_ _;clear hHeld kX how hgr hbL x0 x1 x2 fz kY gn1;have HFW:Hid (zdu ({ N with la:=aL,ln:=N.ln+1,lc:=cL,ls:=N.ls++[(⟨ya,yp,yb - 1,yq⟩:LK)] }:NV)):=hide (⟨HFW.out.bn,by have:=HSZ.out; show N.ln+1≤10; omega,HFW.out.sn,HFW.out.b,fun x hx=>by
     rcases List.mem_append.1 hx with h1 | h1
     ·exact HFW.out.l x h1
     ·rw [List.mem_singleton.1 h1];unfold LK.Rng I64;dsimp only;omega⟩)
    generalize ({ N with la:=aL,ln:=N.ln+1,lc:=cL,ls:=N.ls++[(⟨ya,yp,yb - 1,yq⟩:LK)] }:NV)=M at *;generalize wL.setCell ⟨X,1,none⟩ _=wf at *;obtain ⟨x0,x1,x2⟩:=zd st.box;obtain ⟨r0,r1,r2⟩:=zd st.res;have f0:=zi st.res 0;have f1:=zi st.res 1;have f2:=zi st.res 2;obtain ⟨p0,p1,VV,hVV,kQ,oQ,wQ⟩:=zgr st;subst hVV;obtain ⟨q0,q1,q2⟩:=zd kQ;have HOQ:=hide oQ;have HWQ:=hide wQ;clear oQ wQ kQ st;go_wp2;exact bodyPost_ret (v:=.agg #[.slice M.ba M.bn M.bc,.slice M.la M.ln M.lc,.slice M.sa M.sn M.sc]) (by simp [results,Tryz.results28,go_sem, *]) rfl ⟨M,rfl,HOQ.out,HFW.out,HWQ.out⟩
  |
   exact AllReadyH.nil
  |
   refine kLc 1 (fun K hK => ?_) ?_;go_simp;refine kO hK (trivial) fun hHeld => ?_
   clear hK K
  |
   refine kLc 3 (fun K hK => ?_) ?_;go_simp;clear hHeld;refine (zy C a0 l0 c0 z0 3 _ st.went.cur (by omega)).mono ?_;rintro e wz ⟨ya,rfl,ya0,-,ya9,wt⟩;have st:=st.goes wt;clear wt;obtain ⟨x0,x1,x2⟩:=zd st.box;(go_wp2_with fail);refine kO hK (trivial) fun hHeld => ?_
   clear hK K
  |
   refine kLc 5 (fun K hK => ?_) ?_;go_simp;clear hHeld;refine (zy C a0 l0 c0 z0 3 _ st.went.cur (by omega)).mono ?_;rintro e wz ⟨yp,rfl,yp0,-,yp9,wt⟩;have st:=st.goes wt;clear wt;obtain ⟨x0,x1,x2⟩:=zd st.box;(go_wp2_with fail);refine kO hK (trivial) fun hHeld => ?_
   clear hK K
  |
   refine kLc 7 (fun K hK => ?_) ?_;go_simp;clear hHeld;refine (zy C a0 l0 c0 z0 7 _ st.went.cur (by omega)).mono ?_;rintro e wz ⟨yb,rfl,yb0,-,yb9,wt⟩;have hwb:IntKind.i64.wrap (yb - 1)=yb - 1:=by rw [IntKind.wrap_i64]; omega
   have st:=st.goes wt;clear wt;obtain ⟨x0,x1,x2⟩:=zd st.box;(go_wp2_with fail);refine kO hK (trivial) fun hHeld => ?_
   clear hK K
  |
   refine kLc 10 (fun K hK => ?_) ?_;go_simp;clear hHeld;refine (zy C a0 l0 c0 z0 7 _ st.went.cur (by omega)).mono ?_;rintro e wz ⟨yq,rfl,yq0,-,yq9,wt⟩;have st:=st.goes wt;clear wt;obtain ⟨x0,x1,x2⟩:=zd st.box;(go_wp2_with fail);refine kO hK (trivial) fun hHeld => ?_
   clear hK K
  |
   refine kLc 12 (fun K hK => ?_) ?_;go_simp
   first
   | refine zaj (K:=K _) (fun wx kY hbx => ?_)
   | refine zab (K:=K _) (fun wx kY hbx => ?_)
   have st:=st.later hbx;clear hbx;obtain ⟨x0,x1,x2⟩:=zd st.box;refine kO hK (trivial) fun hHeld => ?_
   clear hK K
  |
   refine kLc 13 (fun K hK => ?_) ?_;have gn1:GRow linkF wx (some ⟨_,0,none⟩) 1 1 [(⟨ya,yp,yb - 1,yq⟩:LK)]:=zD (F:=linkF) (zd0 linkF (base:=0) (l:=[(⟨ya,yp,yb - 1,yq⟩:LK)]) kY rfl (Nat.zero_le _) (by simp));refine zI (F:=linkF) rfl _ _ 25 44 rfl (w.heap.size+1) Tryz.underlying25 zc3 rfl (by decide) _ N.ln N.ls rfl st.own.l _ 1 1 _ rfl gn1 (by have:=HSZ.out; omega) st.base ?_;intro aL cL wL how _ hgr hbL;obtain ⟨kX,st⟩:=st.pushL (x:=(⟨ya,yp,yb - 1,yq⟩:LK)) hgr how;obtain ⟨x0,x1,x2⟩:=zd kX;have fz:=zi kX 1;refine kO hK (trivial) fun hHeld => ?_
   clear hK K
  |
   refine kLc 15 (fun K hK => ?_) ?_;go_simp;refine kO hK (trivial) fun hHeld => ?_
   clear hK K
 by_cases e2:sx=2
 ·subst e2;have vv:Below wc.heap.size wc wc.drew:=zr (Below.refl _ _);obtain ⟨x0,x1,x2⟩:=zd st.box;(go_upto_region 11 with fail);clear x0 x1 x2;refine wp_region_held_drew (S:=(fun _=>True)) (by kernel_rfl) (trivial) (fun hHeld => ?_);have st:=st.later vv;clear vv;generalize wc.drew=wd at *;obtain ⟨x0,x1,x2⟩:=zd st.box
  repeat' first
  |
   with_reducible refine kLa ?_
   first
   |
    refine kLf 0 ?_;refine kK 0 ?_
   |
    refine kLf 2 ?_;refine kK 2 ?_
   |
    refine kLf 5 ?_;refine kK 5 ?_
   |
    refine kLf 7 ?_;refine kK 7 ?_
   |
    refine kLf 10 ?_;refine kK 10 ?_
   |
    refine kLp [1,3] ?_
   |
    refine kLp [3] ?_
   |
    refine kLp [4] ?_
   |
    refine kLp [6] ?_
   |
    refine kLp [8] ?_
   |
    refine kLp [9] ?_
   |
    refine kLp [11] ?_
   |
    refine kLp [1,4] ?_
   |
    refine kLp [1,6] ?_
   |
    refine kLp [1,8] ?_
   |
    refine kLp [1] ?_
   |
    refine wpAnyH_done (by kernel_rfl) ?_ _;clear hHeld kX how hgr hbL x0 x1 x2 fz kY gn1;have HFW:Hid (zdu ({ N with sa:=aL,sn:=N.sn+1,sc:=cL,ss:=N.ss++[(⟨yl,false,⟨vr,vc,vh,vb,vp⟩⟩:SY)] }:NV)):=hide (⟨HFW.out.bn,HFW.out.ln,by have:=HSZ.out; show N.sn+1≤41; omega,HFW.out.b,HFW.out.l⟩);generalize ({ N with sa:=aL,sn:=N.sn+1,sc:=cL,ss:=N.ss++[(⟨yl,false,⟨vr,vc,vh,vb,vp⟩⟩:SY)] }:NV)=M at *;generalize wL.setCell ⟨X,2,none⟩ _=wf at *;obtain ⟨x0,x1,x2⟩:=zd st.box;obtain ⟨r0,r1,r2⟩:=zd st.res;have f0:=zi st.res 0;have f1:=zi st.res 1;have f2:=zi st.res 2;obtain ⟨p0,p1,VV,hVV,kQ,oQ,wQ⟩:=zgr st;subst hVV;obtain ⟨q0,q1,q2⟩:=zd kQ;have HOQ:=hide oQ;have HWQ:=hide wQ;clear oQ wQ kQ st;go_wp2;exact bodyPost_ret (v:=.agg #[.slice M.ba M.bn M.bc,.slice M.la M.ln M.lc,.slice M.sa M.sn M.sc]) (by simp [results,Tryz.results28,go_sem, *]) rfl ⟨M,rfl,HOQ.out,HFW.out,HWQ.out⟩
  |
   exact AllReadyH.nil
  |
   refine kLc 1 (fun K hK => ?_) ?_;go_simp;refine kO hK (trivial) fun hHeld => ?_
   clear hK K
  |
   refine kLc 3 (fun K hK => ?_) ?_;go_simp;have hCa:C < _:=st.went.cur.lt
   first
   | refine zaj (K:=K _) (fun wx kI hbx => ?_)
   | refine zab (K:=K _) (fun wx kI hbx => ?_)
   have st:=st.later hbx;clear hbx;obtain ⟨x0,x1,x2⟩:=zd st.box;refine kO hK (trivial) fun hHeld => ?_
   clear hK K
  |
   refine kLc 4 (fun K hK => ?_) ?_;go_simp;clear hHeld;refine (zb6 C a0 l0 c0 z0 [-1,0,8,9] _ _ _ st.went.cur hCa kI rfl (by simp) (by simp)).mono ?_;rintro e wz ⟨yl,-,rfl,wt⟩;have st:=st.goes wt;clear wt;obtain ⟨x0,x1,x2⟩:=zd st.box;(go_wp2_with fail);refine kO hK (trivial) fun hHeld => ?_
   clear hK K
  |
   refine kLc 6 (fun K hK => ?_) ?_;go_simp;clear hHeld;refine (zgG C a0 l0 c0 z0 _ st.went.cur).mono ?_;rintro e wz ⟨vr,vc,vh,vb,vp,rfl,wt⟩;have st:=st.goes wt;clear wt;obtain ⟨x0,x1,x2⟩:=zd st.box;(go_wp2_with fail);refine kO hK (trivial) fun hHeld => ?_
   clear hK K
  |
   refine kLc 8 (fun K hK => ?_) ?_;go_simp
   first
   | refine zaj (K:=K _) (fun wx kY hbx => ?_)
   | refine zab (K:=K _) (fun wx kY hbx => ?_)
   have st:=st.later hbx;clear hbx;obtain ⟨x0,x1,x2⟩:=zd st.box;refine kO hK (trivial) fun hHeld => ?_
   clear hK K
  |
   refine kLc 9 (fun K hK => ?_) ?_;have gn1:GRow sayF wx (some ⟨_,0,none⟩) 1 1 [(⟨yl,false,⟨vr,vc,vh,vb,vp⟩⟩:SY)]:=zD (F:=sayF) (zd0 sayF (base:=0) (l:=[(⟨yl,false,⟨vr,vc,vh,vb,vp⟩⟩:SY)]) kY rfl (Nat.zero_le _) (by simp));refine zI (F:=sayF) rfl _ _ 29 74 rfl (w.heap.size+1) Tryz.underlying29 zd1 rfl (by decide) _ N.sn N.ss rfl st.own.s _ 1 1 _ rfl gn1 (by have:=HSZ.out; omega) st.base ?_;intro aL cL wL how _ hgr hbL;obtain ⟨kX,st⟩:=st.pushS (x:=(⟨yl,false,⟨vr,vc,vh,vb,vp⟩⟩:SY)) hgr how;obtain ⟨x0,x1,x2⟩:=zd kX;have fz:=zi kX 2;refine kO hK (trivial) fun hHeld => ?_
   clear hK K
  |
   refine kLc 11 (fun K hK => ?_) ?_;go_simp;refine kO hK (trivial) fun hHeld => ?_
   clear hK K
 by_cases e3:sx=3
 ·subst e3;have vv:Below wc.heap.size wc wc.drew:=zr (Below.refl _ _);obtain ⟨x0,x1,x2⟩:=zd st.box;obtain ⟨y,b,off,hy,hba,-,-,c2,-⟩:=br_at st.own.b.grow kk hkk;obtain ⟨hyl,hy1,hy6⟩:=zh7 st.own HOK.out hy;obtain ⟨x,hx⟩:∃x,y.B.ports[0]? = some x:=⟨_,List.getElem?_eq_getElem (by omega)⟩;obtain ⟨g,hga,-,hP⟩:=st.ports hy hy1;have HY:=hide hy;have HBA:=hide hba;have HX:=hide hx;have HGA:=hide hga;rw [hga] at c2;rw [hba] at x0;obtain ⟨x',b',off',hx',ha',p0,-⟩:=pt_at (zD (F:=ptF) hP) 0 hy1;rw [hx] at hx';cases hx';cases ha';simp only [Nat.zero_mul,Nat.zero_add] at p0;have i1:(0:Int)≤(kk:Int):=by omega
  have i2:(kk:Int) < (N.bn:Int):=by omega
  have i3:(0:Int) < (y.n:Int):=by omega
  have i4:0 < y.n:=hy1;clear hy hba hx hga hP hyl hy6;(go_upto_region 13 with fail);clear x0 x1 x2;have p0:=(vv.cell (zo p0)).trans p0;have c2:=(vv.cell (zo c2)).trans c2;refine wp_region_held_drew (S:=(fun W=>zcc W X 0 (.slice (some ⟨b,off,none⟩) N.bn N.bc)∧zcc W b (off+kk*11+2) (.slice (some ⟨g,0,none⟩) y.n y.c))) (by kernel_rfl) ((zbG (st.later vv) HY.out HBA.out HGA.out)) (fun hHeld => ?_);have st:=st.later vv;clear vv;generalize wc.drew=wd at *;refine kK 0 ?_;refine kK 1 ?_;refine kK 2 ?_;refine kK 3 ?_;refine kK 4 ?_;refine kK 5 ?_;refine kK 6 ?_;refine kK 7 ?_;refine kK 8 ?_;refine kK 9 ?_;refine kK 10 ?_;refine kK 11 ?_;refine kK 12 ?_;refine kK 13 ?_;refine kR 14 fun K hK => ?_
  go_simp;refine kO hK ((by first | exact zbG st HY.out HBA.out HGA.out | exact zbG st2 HY2.out HBA.out HGA.out)) fun hHeld => ?_
  clear hK K;refine kK 15 ?_;refine kK 16 ?_;refine kK 17 ?_;refine kR 18 fun K hK => ?_
  obtain ⟨g3,hga3,-,hP3⟩:=st.ports HY.out hy1;rw [HGA.out] at hga3;cases hga3;have fz:=zf7 hP3 0;have HY2:Hid ((N.bs.set kk { y with B:=flipB y.B x (!x.up) })[kk]? = some { y with B:=flipB y.B x (!x.up) }):=hide (by rw [List.getElem?_set,if_pos rfl,if_pos (List.getElem?_eq_some_iff.1 HY.out).1]);have st2:=st.flip HY.out HX.out hy1 HGA.out (!x.up);clear hP3;go_simp;refine kO hK ((by first | exact zbG st HY.out HBA.out HGA.out | exact zbG st2 HY2.out HBA.out HGA.out)) fun hHeld => ?_
  clear hK K;refine wpAnyH_done (by kernel_rfl) ?_ _;clear hHeld fz st;have st:=st2;clear st2;have HFW:Hid (zdu ({ N with bs:=N.bs.set kk { y with B:=flipB y.B x (!x.up) } }:NV)):=hide ⟨HFW.out.bn,HFW.out.ln,HFW.out.sn,fun B hB=>by
   have hB:B∈(N.bs.set kk { y with B:=flipB y.B x (!x.up) }).map BV.B:=hB;rw [List.map_set] at hB;rcases List.mem_or_eq_of_mem_set hB with h1 | h1
   ·exact HFW.out.b B h1
   ·rw [h1];obtain ⟨⟨s1,s2,s3,s4⟩,s5⟩:=HFW.out.b y.B (List.mem_of_getElem? (zd7 HY.out));exact ⟨⟨by simp only [flipB,List.length_set]; exact s1,s2,s3,s4⟩,s5⟩,HFW.out.l⟩
  clear HY HX HY2 c2 p0;generalize ({ N with bs:=N.bs.set kk { y with B:=flipB y.B x (!x.up) } }:NV)=M at *;generalize wd.setCell ⟨g,0,none⟩ _=wf at *;obtain ⟨x0,x1,x2⟩:=zd st.box;obtain ⟨r0,r1,r2⟩:=zd st.res;have f0:=zi st.res 0;have f1:=zi st.res 1;have f2:=zi st.res 2;obtain ⟨p0,p1,VV,hVV,kQ,oQ,wQ⟩:=zgr st;subst hVV;obtain ⟨q0,q1,q2⟩:=zd kQ;have HOQ:=hide oQ;have HWQ:=hide wQ;clear oQ wQ kQ st;go_wp2;exact bodyPost_ret (v:=.agg #[.slice M.ba M.bn M.bc,.slice M.la M.ln M.lc,.slice M.sa M.sn M.sc]) (by simp [results,Tryz.results28,go_sem, *]) rfl ⟨M,rfl,HOQ.out,HFW.out,HWQ.out⟩
 have n0:(sx == 0)=false:=by simp [e0]
 have n1:(sx == 1)=false:=by simp [e1]
 have n2:(sx == 2)=false:=by simp [e2]
 have n3:(sx == 3)=false:=by simp [e3]
 obtain ⟨x0,x1,x2⟩:=zd st.box;obtain ⟨r0,r1,r2⟩:=zd st.res;have f0:=zi st.res 0;have f1:=zi st.res 1;have f2:=zi st.res 2;obtain ⟨p0,p1,VV,hVV,kQ,oQ,wQ⟩:=zgr st;subst hVV;obtain ⟨q0,q1,q2⟩:=zd kQ;have HOQ:=hide oQ;have HWQ:=hide wQ;clear oQ wQ kQ st;go_wp2;exact bodyPost_ret (v:=.agg #[.slice N.ba N.bn N.bc,.slice N.la N.ln N.lc,.slice N.sa N.sn N.sc]) (by simp [results,Tryz.results28,go_sem, *]) rfl ⟨N,rfl,HOQ.out,HFW.out,HWQ.out⟩

end

end Go.Proofs.YtkcoehmpnkdinaaGreat
