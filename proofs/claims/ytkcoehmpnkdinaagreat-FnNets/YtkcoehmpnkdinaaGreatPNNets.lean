/-
  FnNets answers true of every code: drawn bridges and links that are right are up at both ends, each beside the other; of bent ones each is right just as the specification has it.
-/
import Derived.Test.YtkcoehmpnkdinaaGreatPNK41
import Derived.Test.YtkcoehmpnkdinaaGreatPNSameNet
namespace Go.Proofs.YtkcoehmpnkdinaaGreat
set_option maxRecDepth 100000
set_option maxHeartbeats 16000000
open Go.RowKit

theorem ziu {bs:List BR} {ls:List LK} {ss:List SY} (h:NetOk bs ls ss) {x:LK} (hx:x∈ls):zaM ls x.a x.p=some (x.b,x.q):=by
 have hnd:=((zbF bs ls).1 h.2.1).2.2;cases hb:zaM ls x.a x.p with
 | none=>exact absurd ((zet ls x.a x.p).1 hb) (zj6 hx).1
 | some o =>
  unfold zaM at hb;obtain ⟨y,hy,he⟩:=List.exists_of_findSome?_eq_some hb;unfold zaG at he
  split at he
  ·next c =>
   have e:=zbQ hnd hx hy (.inl (by rw [c.1,c.2]));subst e;exact he.symm
  ·split at he
   ·next c =>
    have e:=zbQ hnd hx hy (.inr (.inr (.inl (by rw [c.1,c.2]))));subst e;obtain ⟨⟨n,-⟩,-⟩:=h.2.1.2 _ hx;exact absurd c.1.symm n
   ·cases he

theorem zlu {ids:List Int} {ports:Int} {ls:List LK} {ss:List SY} (h:NetOk (upBs ids ports) ls ss) {k:Nat} {x:LK} (hx:ls[k]? = some x):zaw (upBs ids ports) ls (k:Int)=true:=by
 obtain ⟨⟨-,u,v,hu,hv,-⟩,-⟩:=h.2.1.2 x (List.mem_of_getElem? hx);have e1:=(zf9 hu).1;have e2:=(zf9 hv).1;unfold zaw upAt;rw [if_pos (by omega),Int.toNat_natCast,hx];dsimp only;rw [hu,hv,e1,e2]
 rfl

theorem zjD {ids:List Int} {ports:Int} {l:List LK} {M N:NV} (hM:NewIs ids ports l M) (hN:NewIs ids ports l N) (e1:M.ss=[]) (e2:N.ss=[]):M.Same N:=by
 by_cases hok:NetOk (newBs ids ports) l []
 ·exact ⟨(hM.yes hok).1.trans (hN.yes hok).1.symm,(hM.yes hok).2.trans (hN.yes hok).2.symm,e1.trans e2.symm⟩
 ·exact ⟨by rw [(hM.no hok).1,(hN.no hok).1],by rw [(hM.no hok).2,(hN.no hok).2],e1.trans e2.symm⟩

theorem zjC {ids:List Int} {ports:Int} {l:List LK} {M:NV} (h:NewIs ids ports l M) (es:M.ss=[]) :
  ((∀x∈M.ls,zaM M.ls x.a x.p=some (x.b,x.q))∧∀(i:Nat) (x:LK),M.ls[i]? = some x→zaw M.brs M.ls (i:Int)=true)∧(NetOk M.brs M.ls M.ss∨(M.bs=[]∧¬NetOk M.brs M.ls M.ss)):=by
 by_cases hok:NetOk (newBs ids ports) l []
 ·obtain ⟨h1,h2⟩:=h.yes hok;have h3:M.brs=upBs ids ports:=h1;have h4:=(zhz ids ports l).1 hok;rw [h3,h2,es];exact ⟨⟨fun x hx=>ziu h4 hx,fun i x hx=>zlu h4 hx⟩,.inl h4⟩
 ·obtain ⟨h1,h2⟩:=h.no hok;rw [h2];refine ⟨⟨(fun x hx=>by cases hx),(fun i x hx=>by simp at hx)⟩,.inr ⟨h1,fun hn => ?_⟩⟩
  have:=hn.1.2.2.1
  unfold NV.brs at this;rw [h1] at this
  simp at this

theorem ziv (o:Option (Int × Int)):∃(x q:Int) (k:Bool),zdm o=.tuple #[.int .i64 x,.int .i64 q,.bool k]:=by
 cases o with
 | none=>exact ⟨_,_,_,rfl⟩
 | some p=>exact ⟨_,_,_,rfl⟩

theorem zjI (a0:Option Addr) (l0 c0:Nat) (z0:List Int) (w:World) (h0:Row w a0 l0 c0 z0) :
  Calls Tryz.prog 3 #[.slice a0 l0 c0] w fun e w'=>e=.returned (.bool true)∧Below w.heap.size w w':=by
 by_cases hbig:1048576 < l0
 ·have hb1:Calls Tryz.prog 4 #[.slice a0 l0 c0] w fun e w'=>e=.returned (.bool true)∧w'=w:=by
   have i1:(1048576:Int) < l0:=by omega
   go_enter Tryz.func4,Tryz.ntmps4;go_wp2;go_ret;exact ⟨rfl,rfl⟩
  go_enter Tryz.func3,Tryz.ntmps3;go_wp2_with (go_at_call 4; refine hb1.mono ?_; rintro e w' ⟨rfl,rfl⟩)
  go_ret;exact ⟨rfl,Below.refl _ _⟩
 have hs:l0≤1048576:=by omega
 go_enter Tryz.func3,Tryz.ntmps3;go_wp2_with (go_at_call 4; refine (zlz a0 l0 c0 _ hbig).mono ?_; rintro e w' ⟨rfl,e3⟩; obtain rfl:=e3.symm)
 refine (zfd a0 l0 c0 z0 _ h0 hs).mono ?_;rintro e w1 ⟨ia,im,ic,ids,ports,la,ln,lc,ls,rfl,iI,him,iL,hln,bw⟩;have HIM:=hide him;have HLN:=hide hln;clear him hln;go_wp2_with fail
 refine (zeH ia im ic ids ports la ln lc ls _ iI iL HLN.out HIM.out).mono ?_;rintro e w2 ⟨M,rfl,oM,sM,hb⟩;have HSM:=hide sM;have HSS:=hide oM.s.2.2.2;have HMG:=zjC sM HSS.out;have HBS:=hide HMG.1;have rM:=oM.row;have HBN:Hid ((NetOk M.brs M.ls M.ss→0 < M.bn)∧(¬NetOk M.brs M.ls M.ss→M.bn=0)):=hide ⟨fun hn=>(zcv rM hn).2.2.2,fun hn=>by
  rcases HMG.2 with h | h
  ·exact absurd h hn
  ·have:=rM.b.size; rw [h.1] at this; exact this.symm⟩
 have HFM:Hid (∀x∈M.bs,x.fn≤16777216):=hide (fun x hx=>by
  rcases HMG.2 with h | h
  ·have:=(zgc rM (fun B hB=>ok_sm (h.1.1 B hB)) x hx).2.1; omega
  ·rw [h.1] at hx; cases hx)
 have HRM:Hid (∀x∈M.bs,∀r∈x.B.v.rows,r.Rng):=hide (fun x hx=>by
  rcases HMG.2 with h | h
  ·exact (ok_rg (h.1.1 x.B (by unfold NV.brs; exact List.mem_map_of_mem hx))).2
  ·rw [h.1] at hx; cases hx)
 clear HMG sM oM;have iI:=iI.below hb;have iL:=iL.below hb;have bw:=zc bw hb;generalize hwb:w2.alloc (Obj.cells #[.slice M.ba M.bn M.bc,.slice M.la M.ln M.lc,.slice M.sa M.sn M.sc] 31)=w3;have bb:=zb hwb;have kM:=zk hwb;have rM:=rM.below bb;have iI:=iI.below bb;have iL:=iL.below bb;have bw:=zc bw bb;generalize hXM:w2.heap.size=XM at *;clear bb hb;go_wp2_with fail
 clear hwb hXM;refine (zfQ a0 l0 c0 z0 _ (h0.below bw) hs).mono ?_;rintro e w4 ⟨D,rfl,oD,hF,hb⟩;have rD:=oD.row;have HDL:Hid (D.ln≤16777216):=hide (by have:=hF.ln; omega);have HFN:Hid (∀x∈D.bs,x.fn≤16777216):=hide (fun x hx=>by have:=(zgc rD (fun B hB=>(hF.b B hB).1) x hx).2.1; omega);have HRG:Hid (∀x∈D.bs,∀r∈x.B.v.rows,r.Rng):=hide (fun x hx=>(hF.b x.B (by unfold NV.brs; exact List.mem_map_of_mem hx)).2.2);clear oD hF;have rM:=rM.below hb;have kM:=za kM hb;have iI:=iI.below hb;have iL:=iL.below hb;have bw:=zc bw hb;generalize hwb:w4.alloc (Obj.cells #[.slice D.ba D.bn D.bc,.slice D.la D.ln D.lc,.slice D.sa D.sn D.sc] 31)=w5;have bb:=zb hwb;have kD:=zk hwb;have rM:=rM.below bb;have rD:=rD.below bb;have kM:=za kM bb;have iI:=iI.below bb;have iL:=iL.below bb;have bw:=zc bw bb;generalize hXD:w4.heap.size=XD at *;clear bb hb;go_wp2_with fail
 clear hwb hXD;refine (zfb a0 l0 c0 z0 _ (h0.below bw) hs).mono ?_;rintro e w6 ⟨E,eb,ep,rfl,oE,-,hb⟩;have rE:=oE.row;clear oE;have rM:=rM.below hb;have rD:=rD.below hb;have kM:=za kM hb;have kD:=za kD hb;have iI:=iI.below hb;have iL:=iL.below hb;have bw:=zc bw hb;generalize hwb:w6.alloc (Obj.cells #[.slice E.ba E.bn E.bc,.slice E.la E.ln E.lc,.slice E.sa E.sn E.sc] 31)=w7;have bb:=zb hwb;have kE:=zk hwb;have rM:=rM.below bb;have rD:=rD.below bb;have rE:=rE.below bb;have kM:=za kM bb;have kD:=za kD bb;have iI:=iI.below bb;have iL:=iL.below bb;have bw:=zc bw bb;generalize hXE:w6.heap.size=XE at *;clear bb hb;obtain ⟨bx,bq,bk,hbv⟩:=ziv (zaM E.ls eb ep);have HBV:=hide hbv;clear hbv;obtain ⟨x0,x1,x2⟩:=zd kE;go_wp2_with fail
 clear hwb hXE;refine (zca E eb ep _ rE).mono ?_;rintro e w8 ⟨e7,hb⟩;rw [HBV.out] at e7;obtain rfl:=e7;have rM:=rM.below hb;have rD:=rD.below hb;have rE:=rE.below hb;have kM:=za kM hb;have kD:=za kD hb;have kE:=za kE hb;have iI:=iI.below hb;have iL:=iL.below hb;have bw:=zc bw hb;clear hb x0 x1 x2;obtain ⟨x0,x1,x2⟩:=zd kE;go_wp2_with fail
 refine (zfj E eb ep _ rE).mono ?_;rintro e w9 ⟨e7,hb⟩;rw [HBV.out] at e7;obtain rfl:=e7;have rM:=rM.below hb;have rD:=rD.below hb;have kM:=za kM hb;have kD:=za kD hb;have iI:=iI.below hb;have iL:=iL.below hb;have bw:=zc bw hb;clear hb x0 x1 x2 rE kE HBV;go_wp2_with fail
 refine (zfc a0 l0 c0 z0 _ (h0.below bw) hs).mono ?_;rintro e w10 ⟨U,uk,rfl,oU,-,hb⟩;have rU:=oU.row;clear oU;have rM:=rM.below hb;have rD:=rD.below hb;have kM:=za kM hb;have kD:=za kD hb;have iI:=iI.below hb;have iL:=iL.below hb;have bw:=zc bw hb;generalize hwb:w10.alloc (Obj.cells #[.slice U.ba U.bn U.bc,.slice U.la U.ln U.lc,.slice U.sa U.sn U.sc] 31)=w11;have bb:=zb hwb;have kU:=zk hwb;have rM:=rM.below bb;have rD:=rD.below bb;have rU:=rU.below bb;have kM:=za kM bb;have kD:=za kD bb;have iI:=iI.below bb;have iL:=iL.below bb;have bw:=zc bw bb;generalize hXU:w10.heap.size=XU at *;clear bb hb;go_upto_region 10 with fail
 clear hwb hXU;have vv:Below w11.heap.size w11 w11.drew:=zr (Below.refl _ _);refine wp_region_held_drew (S:=(fun W=>(zcc W XM 0 (.slice M.ba M.bn M.bc)∧zcc W XM 1 (.slice M.la M.ln M.lc)∧zcc W XM 2 (.slice M.sa M.sn M.sc))∧(zcc W XD 0 (.slice D.ba D.bn D.bc)∧zcc W XD 1 (.slice D.la D.ln D.lc)∧zcc W XD 2 (.slice D.sa D.sn D.sc))∧(zcc W XU 0 (.slice U.ba U.bn U.bc)∧zcc W XU 1 (.slice U.la U.ln U.lc)∧zcc W XU 2 (.slice U.sa U.sn U.sc)))) (by kernel_rfl) (⟨zd (za kM vv),zd (za kD vv),zd (za kU vv)⟩) (fun hHeld => ?_);refine kK 0 ?_;refine kK 1 ?_;refine kK 2 ?_;refine kK 3 ?_;refine kR 4 fun K hK => ?_
 go_simp;refine (zcS ia im ic ids ports la ln lc ls _ (iI.below vv) (iL.below vv) HLN.out HIM.out).mono ?_;rintro r wz ⟨M2,rfl,oM2,sM2,hbz⟩;have rM2:=oM2.row;have HSA:=hide (zjD HSM.out sM2 HSS.out oM2.s.2.2.2);clear oM2 sM2;have vv:=zc vv hbz;clear hbz;go_wp2_with fail
 refine kO hK (⟨zd (za kM vv),zd (za kD vv),zd (za kU vv)⟩) fun hHeld => ?_
 clear hK K;refine kR 5 fun K hK => ?_
 go_simp;refine (zg2 M M2 _ (rM.below vv) rM2 HSA.out).mono ?_;rintro r wz ⟨rfl,hbz⟩;clear rM2 HSA;have vv:=zc vv hbz;clear hbz;go_wp2_with fail
 refine kO hK (⟨zd (za kM vv),zd (za kD vv),zd (za kU vv)⟩) fun hHeld => ?_
 clear hK K;refine kK 6 ?_;refine kK 7 ?_;refine kK 8 ?_;refine kK 9 ?_;refine kV 10 (.bool false) ?_;refine kK 11 ?_;refine kK 12 ?_;refine kK 13 ?_;refine kK 14 ?_;refine kV 15 (.bool false) ?_;refine kK 16 ?_;refine kK 17 ?_;refine kK 18 ?_;refine kK 19 ?_;refine kV 20 (.bool false) ?_;refine kK 21 ?_;refine kK 22 ?_;refine kK 23 ?_;refine kK 25 ?_;refine kR 24 fun K hK => ?_
 go_simp;refine (zbN D _ (rD.below vv) HFN.out HRG.out).mono ?_;rintro r wz ⟨q1,rfl,hq1,hbz⟩;have vv:=zc vv hbz;clear hbz;go_wp2_with fail
 refine kO hK (⟨zd (za kM vv),zd (za kD vv),zd (za kU vv)⟩) fun hHeld => ?_
 clear hK K;refine kR 26 fun K hK => ?_
 go_simp;refine (zcy D _ (rD.below vv) HDL.out).mono ?_;rintro r wz ⟨q2,rfl,hq2,hbz⟩;obtain rfl:q2=q1:=by cases q1 <;> cases q2 <;> simp_all
 clear hq1 hq2;have vv:=zc vv hbz;clear hbz;go_wp2_with fail
 refine kO hK (⟨zd (za kM vv),zd (za kD vv),zd (za kU vv)⟩) fun hHeld => ?_
 clear hK K;refine kV 27 (.bool false) ?_;refine kK 28 ?_;refine kK 29 ?_;refine kK 30 ?_;refine kK 31 ?_;refine kK 33 ?_;refine kK 34 ?_;refine kR 32 fun K hK => ?_
 go_simp;refine (zdb U uk _ (rU.below vv)).mono ?_;rintro r wz ⟨rfl,hbz⟩;have vv:=zc vv hbz;clear hbz;go_wp2_with fail
 refine kO hK (⟨zd (za kM vv),zd (za kD vv),zd (za kU vv)⟩) fun hHeld => ?_
 clear hK K;refine kR 35 fun K hK => ?_
 go_simp;refine (za8 U uk _ (rU.below vv)).mono ?_;rintro r wz ⟨rfl,hbz⟩;have vv:=zc vv hbz;clear hbz;go_wp2_with fail
 refine kO hK (⟨zd (za kM vv),zd (za kD vv),zd (za kU vv)⟩) fun hHeld => ?_
 clear hK K;refine kV 36 (.bool false) ?_;refine kK 37 ?_;refine wpAnyH_done (by kernel_rfl) ?_ _;clear hHeld;have rM:=rM.below vv;have kM:=za kM vv;have bw:=zc bw vv;clear rD rU kD kU iI iL;go_wp2_with fail
 go_loopw [19,20,21,22] (fun v u20 u21 u22 wr=>∃i:Nat,v=.int .i64 (i:Int)∧i≤M.ln∧Below wz.heap.size wz wr) (fun v _ _ _ _=>M.ln - (intOf v).toNat)
 case atStart=>exact ⟨0,rfl,Nat.zero_le _,Below.refl _ _⟩
 case round =>
  obtain ⟨i,rfl,hi,hb⟩:=hrel;by_cases hil:i < M.ln
  ·have hil':(i:Int) < (M.ln:Int):=by omega
   have hi0:(0:Int)≤(i:Int):=by omega
   have hML:(M.ln:Int)≤9223372036854775807:=by have h:=Nat.le_trans rM.l.le rM.l.top; unfold maxLen at h; omega
   obtain ⟨x,g,off,hx,hla,v0,v1,v2,v3⟩:=zaX (rM.below hb).l i hil;have HALL:Hid (∀W,Below wr.heap.size wr W→zcc W XM 0 (.slice M.ba M.bn M.bc)∧zcc W XM 1 (.slice (some ⟨g,off,none⟩) M.ln M.lc)∧zcc W XM 2 (.slice M.sa M.sn M.sc)):=hide (fun W h=>by rw [← hla]; exact zd (za (za kM hb) h));have HBE:Hid (zdm (zaM M.ls x.a x.p)=.tuple #[.int .i64 x.b,.int .i64 x.q,.bool true]):=hide (by rw [HBS.out.1 x (List.mem_of_getElem? hx)]; rfl);have HUP:Hid (zaw M.brs M.ls (i:Int)=true):=hide (HBS.out.2 i x hx);obtain ⟨x0,x1,x2⟩:=HALL.out _ (Below.refl _ _);have HLA:=hide hla;clear hla hx;(go_upto_region 15 with fail);have vv:Below wr.heap.size wr wr.drew:=zr (Below.refl _ _);clear x0 x1 x2;refine wp_region_held_drew (S:=(fun W=>(zcc W XM 0 (.slice M.ba M.bn M.bc)∧zcc W XM 1 (.slice (some ⟨g,off,none⟩) M.ln M.lc)∧zcc W XM 2 (.slice M.sa M.sn M.sc))∧zcc W g (off+i*4) (.int .i64 x.a)∧zcc W g (off+i*4+1) (.int .i64 x.p))) (by kernel_rfl) (⟨HALL.out _ vv,(vv.cell (zo v0)).trans v0,(vv.cell (zo v1)).trans v1⟩) (fun hHeld => ?_);refine kK 0 ?_;refine kK 1 ?_;refine kK 2 ?_;refine kK 3 ?_;refine kK 4 ?_;refine kK 5 ?_;refine kK 6 ?_;refine kK 7 ?_;refine kK 8 ?_;refine kK 9 ?_;refine kK 10 ?_;refine kK 11 ?_;refine kK 12 ?_;refine kR 13 fun K hK => ?_
   go_simp;rw [← HLA.out];refine (zca M x.a x.p _ ((rM.below hb).below vv)).mono ?_;rintro r wz ⟨e7,hbz⟩;rw [HBE.out] at e7;obtain rfl:=e7;have vv:=zc vv hbz;clear hbz;(go_wp2_with fail);refine kO hK (⟨HALL.out _ vv,(vv.cell (zo v0)).trans v0,(vv.cell (zo v1)).trans v1⟩) fun hHeld => ?_
   clear hK K;refine kK 14 ?_;refine kK 15 ?_;refine kK 16 ?_;refine kK 17 ?_;refine kK 18 ?_;refine kK 19 ?_;refine kK 20 ?_;refine wpAnyH_done (by kernel_rfl) ?_ _;clear hHeld;obtain ⟨x0,x1,x2⟩:=HALL.out _ vv;have v2:=(vv.cell (zo v2)).trans v2;have v3:=(vv.cell (zo v3)).trans v3;have rX:=(rM.below hb).below vv;have hb:=zc hb vv;clear v0 v1 vv;(go_wp2_with fail);rw [← HLA.out];refine (zdb M (i:Int) _ rX).mono ?_;rintro r wz ⟨rfl,hbz⟩;have hb:=zc hb hbz;rw [HUP.out];clear hbz rX x0 x1 x2 v2 v3;go_wp2
   go_roundw
   case rel=>exact ⟨i+1,by go_num,by omega,hb⟩
   case measure=>simp [intOf]; omega
  ·have hil':¬(i:Int) < (M.ln:Int):=by omega
   obtain ⟨x0,x1,x2⟩:=zd (za kM hb);by_cases hno:NetOk M.brs M.ls M.ss
   ·have HNO:=hide hno;have hb0:(0:Int) < (M.bn:Int):=by have:=HBN.out.1 hno; omega
    clear hno;(go_upto_region 18 with fail);have vv:Below wr.heap.size wr wr.drew:=zr (Below.refl _ _);clear x0 x1 x2;refine wp_region_held_drew (S:=(fun W=>(zcc W XM 0 (.slice M.ba M.bn M.bc)∧zcc W XM 1 (.slice M.la M.ln M.lc)∧zcc W XM 2 (.slice M.sa M.sn M.sc)))) (by kernel_rfl) (zd ((za (za kM hb) vv))) (fun hHeld => ?_);refine kK 0 ?_;refine kK 2 ?_;refine kK 3 ?_;refine kK 4 ?_;refine kV 5 (.bool true) ?_;refine kR 1 fun K hK => ?_
    go_simp;refine (zbN M _ ((rM.below hb).below vv) HFM.out HRM.out).mono ?_;rintro r wz ⟨q1,rfl,hq1,hbz⟩;obtain rfl:q1=true:=hq1.2 HNO.out;clear hq1;have vv:=zc vv hbz;clear hbz;(go_wp2_with fail);refine kO hK (zd ((za (za kM hb) vv))) fun hHeld => ?_
    clear hK K;refine kK 6 ?_;refine kK 7 ?_;refine wpAnyH_done (by kernel_rfl) ?_ _;clear hHeld;have HBF:=hide (zc bw (zc hb vv));clear vv kM rM hb bw HBS HBN HFM HRM HSM HSS HNO hb0;go_wp2;go_ret;exact ⟨rfl,HBF.out⟩
   ·have HNO:=hide hno;have hb0:(M.bn:Int)=0:=by have:=HBN.out.2 hno; omega
    clear hno;(go_upto_region 18 with fail);have vv:Below wr.heap.size wr wr.drew:=zr (Below.refl _ _);clear x0 x1 x2;refine wp_region_held_drew (S:=(fun W=>(zcc W XM 0 (.slice M.ba M.bn M.bc)∧zcc W XM 1 (.slice M.la M.ln M.lc)∧zcc W XM 2 (.slice M.sa M.sn M.sc)))) (by kernel_rfl) (zd ((za (za kM hb) vv))) (fun hHeld => ?_);refine kK 0 ?_;refine kK 2 ?_;refine kK 3 ?_;refine kK 4 ?_;refine kV 5 (.bool false) ?_;refine kR 1 fun K hK => ?_
    go_simp;refine (zbN M _ ((rM.below hb).below vv) HFM.out HRM.out).mono ?_;rintro r wz ⟨q1,rfl,hq1,hbz⟩;obtain rfl:q1=false:=by cases q1 with | false=>rfl | true=>exact absurd (hq1.1 rfl) HNO.out
    clear hq1;have vv:=zc vv hbz;clear hbz;(go_wp2_with fail);refine kO hK (zd ((za (za kM hb) vv))) fun hHeld => ?_
    clear hK K;refine kK 6 ?_;refine kK 7 ?_;refine wpAnyH_done (by kernel_rfl) ?_ _;clear hHeld;have HBF:=hide (zc bw (zc hb vv));clear vv kM rM hb bw HBS HBN HFM HRM HSM HSS HNO hb0;go_wp2;go_ret;exact ⟨rfl,HBF.out⟩

theorem fnNets_own:ownKnob Tryz.prog.godebug=none:=by kernel_rfl
theorem fnNets_laid:laidOutB Tryz.prog=true:=by kernel_rfl

open Go.ChangeShapes Go.WideShapes Go.ChangeAt in
open Go.ChangeMaps (open_string shut_string) in
theorem fnNets_lifted (os:Os) (started:os.Started) (H:Type) (enc:TypeId × Value→H) :
  ReturnsInHanded {} Tryz.checked os 3 .any (Rows.fnNetsSpec.pre6 enc Tryz.prog Tryz.f3 Rows.fnNetsRow.domain false) (Rows.fnNetsSpec.post enc Tryz.prog Tryz.f3 false true false false):=by
 refine returnsInHanded_of_change (C:=Tryz.checked) fnNets_own started (by kernel_rfl) Tryz.func3
  (ChangeSpec.witness6 (enc:=enc) (C:=Tryz.checked) false ⟨#[],#[.slice none 0 0],[]⟩ 8 (by kernel_rfl) (by kernel_rfl) (by kernel_rfl) (by kernel_rfl)) ?_
 intro W base args ds gs before hval0 hW hcnd _;have hval:∀(j:Nat) t v,Tryz.f3.params[j]? = some t→args[j]? = some v→Value.okWide Tryz.prog W .any base t v:=hval0;have hW':=hW;obtain ⟨p,q,hA0,hV,rfl,hfz,hnd⟩:=hW;have hA:DataW.TrodAll enc Tryz.prog W 0 (fun _=>true) true Tryz.f3.params.toList args.toList ds p:=hA0;rw [Tryz.params3] at hA hval;obtain ⟨v0,vs0,d0,ds0,p0,q0,hargs,rfl,rfl,h0,r0⟩:=trodAll_cons hA;obtain ⟨rfl,rfl,rfl⟩:=trodAll_nil r0;obtain rfl:args=#[v0]:=by cases args; simp_all
 obtain ⟨rfl,rfl⟩:=trodVars_none hV;obtain ⟨a0,len0,cap0,rfl⟩:=okWide_slice Tryz.underlying22 (hval 0 22 v0 rfl rfl);have k0:=h0;have lt0:∀x∈p0,x.block < W.heap.size:=by obtain ⟨m,hm⟩:=k0; exact DataW.trod_lt m _ _ _ hm
 obtain ⟨z0,w0⟩:∃zs,Row W a0 len0 cap0 zs:=by
  obtain ⟨fuel,hf⟩:=h0;rcases open_ints Tryz.underlying22 Tryz.underlying5 (by kernel_rfl) hf with ⟨hcs,_⟩ | ⟨x,l,c,zs,hcs,_,hl,hm,hz,_,hcell,hwz⟩
  ·simp [Value.cells] at hcs
   obtain ⟨rfl,rfl,rfl⟩:=hcs;exact ⟨[],zlr W⟩
  ·simp [Value.cells] at hcs
   obtain ⟨rfl,rfl,rfl⟩:=hcs;exact ⟨zs.take len0,zkP hl hm (by simpa using hz) hcell hwz⟩
 clear hA0 hval0;refine (zjI a0 len0 cap0 z0 W w0).mono fun e W' ⟨he,bel⟩ => ?_
 subst he;exact ⟨_,rfl,_,_,_,[],_,[],hW',trodAll_mk1 (shut_bool Tryz.underlying4 _),(trodAll_cons_mk (Below.trod fnNets_laid (by kernel_rfl) (of_decide_eq_true (by kernel_rfl)) k0 bel lt0) trodAll_mk0),rfl,bel.frame _,fun h=>by cases h⟩

theorem fnNets_holds:Rows.FnNetsSaid :=
 OpenClaim.holds_of_wide 3 Tryz.f3 rfl rfl rfl rfl rfl rfl rfl ⟨rfl,rfl,rfl,rfl,rfl⟩ rfl rfl rfl rfl rfl (by kernel_rfl) Tryz.func3 (by kernel_rfl)
  (of_decide_eq_true (by kernel_rfl)) (by unfold Func.isWrapper; first | (rw [if_pos (by decide +kernel)]; kernel_rfl) | (rw [if_neg (by decide +kernel)]; exact ⟨rfl,rfl⟩))
  (fun os started H enc _=>fnNets_lifted os started H enc)

#print axioms fnNets_holds

end Go.Proofs.YtkcoehmpnkdinaaGreat
