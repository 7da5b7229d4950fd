/-
  Packed: NetOkT NetUpI.
-/
import Derived.Test.YtkaefmfopejbaaaGreatPAK16
namespace Go.Proofs.YtkaefmfopejbaaaGreat
set_option maxRecDepth 100000
set_option maxHeartbeats 16000000
open Go.RowKit

theorem zjv {N:NV} {w:World} (h:zaa w N) {b p:Int} {u:PT} (hp:zad N.brs b p=some u):∃(k j bb off pb po n c:Nat),b=(k:Int)∧p=(j:Int)∧k < N.bn∧j < n∧N.ba=some ⟨bb,off,none⟩∧w.cell? ⟨bb,off+k*11+2,none⟩=some (.slice (some ⟨pb,po,none⟩) n c)∧w.cell? ⟨pb,po+j*8,none⟩=some (.bool u.up):=by
 unfold zad at hp
 split at hp
 ·rename_i hc
  obtain ⟨k,rfl⟩:∃k:Nat,b=(k:Int):=⟨b.toNat,by omega⟩;obtain ⟨j,rfl⟩:∃j:Nat,p=(j:Int):=⟨p.toNat,by omega⟩;rw [Int.toNat_natCast,Int.toNat_natCast] at hp;cases hB:N.brs[k]? with
  | none=>rw [hB] at hp; cases hp
  | some B =>
   rw [hB] at hp;have hp:B.ports[j]? = some u:=hp;obtain ⟨x,hx,rfl⟩:=bs_at hB;have hk:k < N.bn:=by have:=(List.getElem?_eq_some_iff.1 hx).1; have:=h.b.size; omega
   obtain ⟨x',bb,off,hx',hba,-,-,c2,-⟩:=br_at h.b k hk;rw [hx] at hx';cases hx';have hr:=h.item x (List.mem_of_getElem? hx);have hj:j < x.n:=by have:=(List.getElem?_eq_some_iff.1 hp).1; have:=hr.ports.size; omega
   obtain ⟨y,pb,po,hy,hpa,d0,-⟩:=pt_at hr.ports j hj;rw [hp] at hy;cases hy;rw [hpa] at c2;exact ⟨k,j,bb,off,pb,po,x.n,x.c,rfl,rfl,hk,hj,hba,c2,d0⟩
 ·cases hp

def Says (P:Prop) (w:World) (e:Ending) (w':World):Prop:=∃q:Bool,e=.returned (.bool q)∧(q=true↔P)∧Below w.heap.size w w'

theorem zkE {bs:List BR} {ls:List LK} {b p:Int} (h:endOk bs ls b p=true):(∃u,zad bs b p=some u)∧usedL ls b p=1:=by
 unfold endOk at h;simp only [Bool.and_eq_true,decide_eq_true_eq] at h;exact ⟨Option.isSome_iff_exists.1 h.1,h.2⟩
theorem zmz {bs:List BR} {ls:List LK} {b p:Int} (h:endOk bs ls b p=false):¬((∃u,zad bs b p=some u)∧usedL ls b p=1):=by
 rintro ⟨⟨u,hu⟩,h2⟩;unfold endOk at h;rw [hu,h2] at h
 simp at h

theorem zeo (N:NV) (w:World) (h:zaa w N) (hsm:N.ln≤16777216) :
  Calls Tryz.prog 71 #[.agg #[.slice N.ba N.bn N.bc,.slice N.la N.ln N.lc,.slice N.sa N.sn N.sc]] w fun e w'=>Says (NetOk N.brs N.ls N.ss) w e w':=by
 have hle:=Nat.le_trans h.s.le h.s.top;unfold maxLen at hle;have hlsz:=hide h.l.size;have hssz:=hide h.s.size;generalize hw1:w.alloc (Obj.cells #[.slice N.ba N.bn N.bc,.slice N.la N.ln N.lc,.slice N.sa N.sn N.sc] 28)=w1;have b01:=zb hw1;have k1:=zk hw1;obtain ⟨x0,x1,x2⟩:=zd k1;go_enter Tryz.func71,Tryz.ntmps71;go_wp2_with fail
 refine (zfL N _ (h.below b01) hsm).mono ?_;rintro e w2 ⟨q,rfl,hq,hb2⟩;have kNe:=za k1 hb2;have b02:=zc b01 hb2;clear x0 x1 x2 k1 b01 hb2 hw1;obtain ⟨x0,x1,x2⟩:=zd kNe;cases q
 ·have HNO:Hid ((false=true)↔NetOk N.brs N.ls N.ss):=hide (zaD fun hp=>by have:=hq.2 ⟨hp.1,hp.2.2.1⟩; cases this);go_wp2;go_ret;exact ⟨false,rfl,HNO.out,b02⟩
 ·have HBR:=hide (hq.1 rfl);clear hq;by_cases l9:(N.ln:Int) > 9
  ·have HNO:Hid ((false=true)↔NetOk N.brs N.ls N.ss):=hide (zaD fun hp=>by have:=hp.2.1.1; have:=hlsz.out; omega);go_wp2;go_ret;exact ⟨false,rfl,HNO.out,b02⟩
  by_cases s40:(N.sn:Int) > 40
  ·have HNO:Hid ((false=true)↔NetOk N.brs N.ls N.ss):=hide (zaD fun hp=>by have:=hp.2.2.2.1; have:=hssz.out; omega);go_wp2;go_ret;exact ⟨false,rfl,HNO.out,b02⟩
  (go_wp2_with fail);clear x0 x1 x2
  go_loopw [3] (fun i wr=>∃k:Nat,k≤N.ln∧i=.int .i64 k∧(∀y∈N.ls.take k,zhi N.brs N.ls y)∧wr.heap[w.heap.size]? = some (.cells #[.slice N.ba N.bn N.bc,.slice N.la N.ln N.lc,.slice N.sa N.sn N.sc] 28)∧Below w.heap.size w wr) (fun i _=>N.ln - (intOf i).toNat)
  case atStart=>exact ⟨0,Nat.zero_le _,rfl,by intro y hy; simp at hy,kNe,b02⟩
  case round =>
   obtain ⟨k,hk,rfl,hlk,hbox,hb⟩:=hrel;clear kNe b02;obtain ⟨x0,x1,x2⟩:=zd hbox;by_cases hlt:k < N.ln
   ·obtain ⟨x,lb,lo,hx,hla,a0,a1,a2,a3⟩:=zao (h.l.below hb) k hlt;rw [hla] at x1;clear hla;have i1:(0:Int)≤(k:Int):=by omega
    have i2:(k:Int) < (N.ln:Int):=by omega
    have hmem:=List.mem_of_getElem? hx;have HX:=hide hx;have HLK:=hide hlk;generalize hwa:wr.alloc (Obj.cells #[.int .i64 x.a,.int .i64 x.p,.int .i64 x.b,.int .i64 x.q] 66)=wa;have ba:=zb hwa;have kL:=zk hwa;have kNe:=za hbox ba;have ba:=zc hb ba;have vv:Below wa.heap.size wa wa.drew:=zq (Below.refl _ _);clear hx hlk hb hbox;by_cases hab:x.a=x.b
    ·have HNO:Hid ((false=true)↔NetOk N.brs N.ls N.ss):=hide (zaD fun hp=>(hp.2.1.2 x hmem).1.1 hab);have HAB:=hide hab;clear hab;(go_wp2_with fail);have hab:=HAB.out;refine wp_region_held_drew (S:=(fun W=>(zcc W w.heap.size 0 (.slice N.ba N.bn N.bc)∧zcc W w.heap.size 1 (.slice N.la N.ln N.lc)∧zcc W w.heap.size 2 (.slice N.sa N.sn N.sc))∧(zcc W wr.heap.size 0 (.int .i64 x.a)∧zcc W wr.heap.size 1 (.int .i64 x.p)∧zcc W wr.heap.size 2 (.int .i64 x.b)∧zcc W wr.heap.size 3 (.int .i64 x.q)))) (by kernel_rfl) (⟨zd (za kNe vv),zE (za kL vv)⟩) (fun hHeld => ?_);refine kK 0 ?_;refine kK 1 ?_;refine kK 2 ?_;refine kK 3 ?_;refine kV 4 (.bool true) ?_;refine kK 5 ?_;refine kN 6 ?_;refine kN 7 ?_;refine kN 8 ?_;refine kN 9 ?_;refine kN 10 ?_;refine kN 11 ?_;refine kN 12 ?_;refine kK 13 ?_;refine kK 14 ?_;refine kN 15 ?_;refine kN 16 ?_;refine kN 17 ?_;refine kN 18 ?_;refine kN 19 ?_;refine kN 20 ?_;refine kN 21 ?_;refine kK 22 ?_;refine kK 23 ?_;refine kN 24 ?_;refine kN 25 ?_;refine kN 26 ?_;refine kN 27 ?_;refine kN 28 ?_;refine kN 29 ?_;refine kN 30 ?_;refine kN 31 ?_;refine kN 32 ?_;refine kN 33 ?_;refine kN 34 ?_;refine kN 35 ?_;refine kN 36 ?_;refine kN 37 ?_;refine kN 38 ?_;refine kN 39 ?_;refine kN 40 ?_;refine kN 41 ?_;refine kN 42 ?_;refine kN 43 ?_;refine kN 44 ?_;refine kN 45 ?_;refine kN 46 ?_;refine kN 47 ?_;refine kN 48 ?_;refine kK 49 ?_;refine wpAnyH_done (by kernel_rfl) ?_ _;have HB:=hide (zc ba vv);clear hHeld vv kNe kL;go_wp2;go_ret;exact ⟨false,rfl,HNO.out,HB.out⟩
    ·cases h1:endOk N.brs N.ls x.a x.p
     ·have HNO:Hid ((false=true)↔NetOk N.brs N.ls N.ss):=hide (zaD fun hp=>by
       have hl:=hp.2.1.2 x hmem;obtain ⟨u,v,hu,-⟩:=hl.1.2;exact zmz h1 ⟨⟨u,hu⟩,hl.2.1⟩)
      (go_wp2_with fail);refine wp_region_held_drew (S:=(fun W=>(zcc W w.heap.size 0 (.slice N.ba N.bn N.bc)∧zcc W w.heap.size 1 (.slice N.la N.ln N.lc)∧zcc W w.heap.size 2 (.slice N.sa N.sn N.sc))∧(zcc W wr.heap.size 0 (.int .i64 x.a)∧zcc W wr.heap.size 1 (.int .i64 x.p)∧zcc W wr.heap.size 2 (.int .i64 x.b)∧zcc W wr.heap.size 3 (.int .i64 x.q)))) (by kernel_rfl) (⟨zd (za kNe vv),zE (za kL vv)⟩) (fun hHeld => ?_);refine kK 0 ?_;refine kK 1 ?_;refine kK 2 ?_;refine kK 3 ?_;refine kV 4 (.bool false) ?_;refine kK 5 ?_;refine kK 6 ?_;refine kK 7 ?_;refine kK 8 ?_;refine kK 9 ?_;refine kK 10 ?_;refine kR 11 fun K hK => ?_
      go_simp;refine (zb4 N x.a x.p _ (h.below (zc ba vv)) hsm).mono ?_;rintro r wz ⟨rfl,hbz⟩;rw [h1];have vv:=zc vv hbz;(go_wp2_with fail);refine kO hK (⟨zd (za kNe vv),zE (za kL vv)⟩) fun hHeld => ?_
      clear hK K;refine kK 12 ?_;refine kK 13 ?_;refine kK 14 ?_;refine kN 15 ?_;refine kN 16 ?_;refine kN 17 ?_;refine kN 18 ?_;refine kN 19 ?_;refine kN 20 ?_;refine kN 21 ?_;refine kK 22 ?_;refine kK 23 ?_;refine kN 24 ?_;refine kN 25 ?_;refine kN 26 ?_;refine kN 27 ?_;refine kN 28 ?_;refine kN 29 ?_;refine kN 30 ?_;refine kN 31 ?_;refine kN 32 ?_;refine kN 33 ?_;refine kN 34 ?_;refine kN 35 ?_;refine kN 36 ?_;refine kN 37 ?_;refine kN 38 ?_;refine kN 39 ?_;refine kN 40 ?_;refine kN 41 ?_;refine kN 42 ?_;refine kN 43 ?_;refine kN 44 ?_;refine kN 45 ?_;refine kN 46 ?_;refine kN 47 ?_;refine kN 48 ?_;refine kK 49 ?_;refine wpAnyH_done (by kernel_rfl) ?_ _;have HB:=hide (zc ba vv);clear hHeld vv kNe kL;go_wp2;go_ret;exact ⟨false,rfl,HNO.out,HB.out⟩
     ·cases h2:endOk N.brs N.ls x.b x.q
      ·have HNO:Hid ((false=true)↔NetOk N.brs N.ls N.ss):=hide (zaD fun hp=>by
        have hl:=hp.2.1.2 x hmem;obtain ⟨u,v,-,hv,-⟩:=hl.1.2;exact zmz h2 ⟨⟨v,hv⟩,hl.2.2⟩)
       (go_wp2_with fail);refine wp_region_held_drew (S:=(fun W=>(zcc W w.heap.size 0 (.slice N.ba N.bn N.bc)∧zcc W w.heap.size 1 (.slice N.la N.ln N.lc)∧zcc W w.heap.size 2 (.slice N.sa N.sn N.sc))∧(zcc W wr.heap.size 0 (.int .i64 x.a)∧zcc W wr.heap.size 1 (.int .i64 x.p)∧zcc W wr.heap.size 2 (.int .i64 x.b)∧zcc W wr.heap.size 3 (.int .i64 x.q)))) (by kernel_rfl) (⟨zd (za kNe vv),zE (za kL vv)⟩) (fun hHeld => ?_);refine kK 0 ?_;refine kK 1 ?_;refine kK 2 ?_;refine kK 3 ?_;refine kV 4 (.bool false) ?_;refine kK 5 ?_;refine kK 6 ?_;refine kK 7 ?_;refine kK 8 ?_;refine kK 9 ?_;refine kK 10 ?_;refine kR 11 fun K hK => ?_
       go_simp;refine (zb4 N x.a x.p _ (h.below (zc ba vv)) hsm).mono ?_;rintro r wz ⟨rfl,hbz⟩;rw [h1];have vv:=zc vv hbz;(go_wp2_with fail);refine kO hK (⟨zd (za kNe vv),zE (za kL vv)⟩) fun hHeld => ?_
       clear hK K;refine kK 12 ?_;refine kK 13 ?_;refine kK 14 ?_;refine kK 15 ?_;refine kK 16 ?_;refine kK 17 ?_;refine kK 18 ?_;refine kK 19 ?_;refine kR 20 fun K hK => ?_
       go_simp;refine (zb4 N x.b x.q _ (h.below (zc ba vv)) hsm).mono ?_;rintro r wz ⟨rfl,hbz⟩;rw [h2];have vv:=zc vv hbz;(go_wp2_with fail);refine kO hK (⟨zd (za kNe vv),zE (za kL vv)⟩) fun hHeld => ?_
       clear hK K;refine kK 21 ?_;refine kK 22 ?_;refine kK 23 ?_;refine kN 24 ?_;refine kN 25 ?_;refine kN 26 ?_;refine kN 27 ?_;refine kN 28 ?_;refine kN 29 ?_;refine kN 30 ?_;refine kN 31 ?_;refine kN 32 ?_;refine kN 33 ?_;refine kN 34 ?_;refine kN 35 ?_;refine kN 36 ?_;refine kN 37 ?_;refine kN 38 ?_;refine kN 39 ?_;refine kN 40 ?_;refine kN 41 ?_;refine kN 42 ?_;refine kN 43 ?_;refine kN 44 ?_;refine kN 45 ?_;refine kN 46 ?_;refine kN 47 ?_;refine kN 48 ?_;refine kK 49 ?_;refine wpAnyH_done (by kernel_rfl) ?_ _;have HB:=hide (zc ba vv);clear hHeld vv kNe kL;go_wp2;go_ret;exact ⟨false,rfl,HNO.out,HB.out⟩
      ·obtain ⟨⟨u,hu⟩,u1⟩:=zkE h1;obtain ⟨⟨v,hv⟩,v1⟩:=zkE h2;have HNO:Hid (u.up≠v.up→((false=true)↔NetOk N.brs N.ls N.ss)):=hide (fun hne=>zaD fun hp=>by
        obtain ⟨u',v',hu',hv',he⟩:=(hp.2.1.2 x hmem).1.2;rw [hu] at hu';rw [hv] at hv';cases hu';cases hv';exact hne he)
       have HYES:Hid (u.up=v.up→∀y∈N.ls.take (k+1),zhi N.brs N.ls y):=hide (fun he=>zbM HX.out HLK.out ⟨⟨hab,u,v,hu,hv,he⟩,u1,v1⟩);obtain ⟨ka,ja,bb,off,pa,oa,na,ca,ea,ep,ia1,ia2,hba,m1,m2⟩:=zjv (h.below ba) hu;obtain ⟨kb,jb,bb',off',pb,ob,nb,cb,eb,eq,ib1,ib2,hba',m3,m4⟩:=zjv (h.below ba) hv;rw [hba] at hba';cases hba';have hG:GRow brF w (some ⟨bb,off,none⟩) N.bn N.bc N.bs:=by rw [← hba]; exact h.b
       have hM:zaa w ⟨some ⟨bb,off,none⟩,N.bn,N.bc,N.bs,N.la,N.ln,N.lc,N.ls,N.sa,N.sn,N.sc,N.ss⟩:=⟨hG,h.item,h.l,h.s⟩;rw [ea,ep] at h1;rw [eb,eq] at h2;rw [hba] at kNe;rw [ea,ep,eb,eq] at kL;have hab:¬((ka:Int)=(kb:Int)):=by rw [← ea,← eb]; exact hab
       have HBA:=hide hba;rw [ea] at a0;rw [ep] at a1;rw [eb] at a2;rw [eq] at a3;rw [ea,ep,eb,eq] at hwa;have j1:(0:Int)≤(ka:Int):=by omega
       have j2:(ka:Int) < (N.bn:Int):=by omega
       have j3:(0:Int)≤(ja:Int):=by omega
       have j4:(ja:Int) < (na:Int):=by omega
       have j5:(0:Int)≤(kb:Int):=by omega
       have j6:(kb:Int) < (N.bn:Int):=by omega
       have j7:(0:Int)≤(jb:Int):=by omega
       have j8:(jb:Int) < (nb:Int):=by omega
       clear ea ep eb eq hba hu hv u1 v1 hmem HX HLK;(go_wp2_with fail);refine wp_region_held_drew (S:=(fun W=>(zcc W w.heap.size 0 (.slice (some ⟨bb,off,none⟩) N.bn N.bc)∧zcc W w.heap.size 1 (.slice N.la N.ln N.lc)∧zcc W w.heap.size 2 (.slice N.sa N.sn N.sc))∧(zcc W wr.heap.size 0 (.int .i64 (ka:Int))∧zcc W wr.heap.size 1 (.int .i64 (ja:Int))∧zcc W wr.heap.size 2 (.int .i64 (kb:Int))∧zcc W wr.heap.size 3 (.int .i64 (jb:Int)))∧(zcc W bb (off+ka*11+2) (.slice (some ⟨pa,oa,none⟩) na ca)∧zcc W pa (oa+ja*8) (.bool u.up))∧(zcc W bb (off+kb*11+2) (.slice (some ⟨pb,ob,none⟩) nb cb)∧zcc W pb (ob+jb*8) (.bool v.up)))) (by kernel_rfl) (⟨zd (za kNe vv),zE (za kL vv),⟨(vv.cell (zp m1)).trans m1,(vv.cell (zp m2)).trans m2⟩,⟨(vv.cell (zp m3)).trans m3,(vv.cell (zp m4)).trans m4⟩⟩) (fun hHeld => ?_);refine kK 0 ?_;refine kK 1 ?_;refine kK 2 ?_;refine kK 3 ?_;refine kV 4 (.bool false) ?_;refine kK 5 ?_;refine kK 6 ?_;refine kK 7 ?_;refine kK 8 ?_;refine kK 9 ?_;refine kK 10 ?_;refine kR 11 fun K hK => ?_
       go_simp;refine (zb4 ⟨some ⟨bb,off,none⟩,N.bn,N.bc,N.bs,N.la,N.ln,N.lc,N.ls,N.sa,N.sn,N.sc,N.ss⟩ (ka:Int) (ja:Int) _ (hM.below (zc ba vv)) hsm).mono ?_;rintro r wz ⟨rfl,hbz⟩;rw [show endOk (NV.brs ⟨some ⟨bb,off,none⟩,N.bn,N.bc,N.bs,N.la,N.ln,N.lc,N.ls,N.sa,N.sn,N.sc,N.ss⟩) (NV.ls ⟨some ⟨bb,off,none⟩,N.bn,N.bc,N.bs,N.la,N.ln,N.lc,N.ls,N.sa,N.sn,N.sc,N.ss⟩) (ka:Int) (ja:Int)=true from h1];have vv:=zc vv hbz;(go_wp2_with fail);refine kO hK (⟨zd (za kNe vv),zE (za kL vv),⟨(vv.cell (zp m1)).trans m1,(vv.cell (zp m2)).trans m2⟩,⟨(vv.cell (zp m3)).trans m3,(vv.cell (zp m4)).trans m4⟩⟩) fun hHeld => ?_
       clear hK K;refine kK 12 ?_;refine kK 13 ?_;refine kK 14 ?_;refine kK 15 ?_;refine kK 16 ?_;refine kK 17 ?_;refine kK 18 ?_;refine kK 19 ?_;refine kR 20 fun K hK => ?_
       go_simp;refine (zb4 ⟨some ⟨bb,off,none⟩,N.bn,N.bc,N.bs,N.la,N.ln,N.lc,N.ls,N.sa,N.sn,N.sc,N.ss⟩ (kb:Int) (jb:Int) _ (hM.below (zc ba vv)) hsm).mono ?_;rintro r wz ⟨rfl,hbz⟩;rw [show endOk (NV.brs ⟨some ⟨bb,off,none⟩,N.bn,N.bc,N.bs,N.la,N.ln,N.lc,N.ls,N.sa,N.sn,N.sc,N.ss⟩) (NV.ls ⟨some ⟨bb,off,none⟩,N.bn,N.bc,N.bs,N.la,N.ln,N.lc,N.ls,N.sa,N.sn,N.sc,N.ss⟩) (kb:Int) (jb:Int)=true from h2];have vv:=zc vv hbz;(go_wp2_with fail);refine kO hK (⟨zd (za kNe vv),zE (za kL vv),⟨(vv.cell (zp m1)).trans m1,(vv.cell (zp m2)).trans m2⟩,⟨(vv.cell (zp m3)).trans m3,(vv.cell (zp m4)).trans m4⟩⟩) fun hHeld => ?_
       clear hK K;refine kK 21 ?_;refine kK 22 ?_;refine kK 23 ?_;refine kK 24 ?_;refine kK 25 ?_;refine kK 26 ?_;refine kK 27 ?_;refine kK 28 ?_;refine kK 29 ?_;refine kK 30 ?_;refine kK 31 ?_;refine kK 32 ?_;refine kK 33 ?_;refine kK 34 ?_;refine kK 35 ?_;refine kK 36 ?_;refine kK 37 ?_;refine kK 38 ?_;refine kK 39 ?_;refine kK 40 ?_;refine kK 41 ?_;refine kK 42 ?_;refine kK 43 ?_;refine kK 44 ?_;refine kK 45 ?_;refine kK 46 ?_;refine kK 47 ?_;refine kK 48 ?_;refine kK 49 ?_;refine wpAnyH_done (by kernel_rfl) ?_ _;have HB:=hide (zc ba vv);have HK:=hide (za kNe vv);clear hHeld vv kNe kL m1 m2 m3 m4;cases hu:u.up <;> cases hv:v.up
       ·go_wp2
        go_roundw
        case rel=>exact ⟨k+1,by omega,by go_num,(HYES.out (by rw [hu,hv])),by rw [HBA.out]; exact HK.out,HB.out⟩
        case measure=>simp [intOf]; omega
       ·go_wp2;go_ret;exact ⟨false,rfl,HNO.out (by rw [hu,hv]; simp),HB.out⟩
       ·go_wp2;go_ret;exact ⟨false,rfl,HNO.out (by rw [hu,hv]; simp),HB.out⟩
       ·go_wp2
        go_roundw
        case rel=>exact ⟨k+1,by omega,by go_num,(HYES.out (by rw [hu,hv])),by rw [HBA.out]; exact HK.out,HB.out⟩
        case measure=>simp [intOf]; omega
   ·have hkn:k=N.ln:=by omega
    rw [List.take_of_length_le (by have:=hlsz.out; omega)] at hlk;have HLK:=hide hlk;clear hlk hlt;(go_wp2_with fail);clear x0 x1 x2
    go_loopw [5] (fun i wr=>∃k:Nat,k≤N.sn∧i=.int .i64 k∧(∀y∈N.ss.take k,SayOk N.ls y)∧wr.heap[w.heap.size]? = some (.cells #[.slice N.ba N.bn N.bc,.slice N.la N.ln N.lc,.slice N.sa N.sn N.sc] 28)∧Below w.heap.size w wr) (fun i _=>N.sn - (intOf i).toNat)
    case atStart=>exact ⟨0,Nat.zero_le _,rfl,by intro y hy; simp at hy,hbox,hb⟩
    case round =>
     clear hbox hb hkn hk;obtain ⟨k,hk,rfl,hss,kNe,hb⟩:=hrel;obtain ⟨x0,x1,x2⟩:=zd kNe;by_cases hlt:k < N.sn
     ·obtain ⟨y,sb,so,hy,hsa,-⟩:=zlj (h.s.below hb) k hlt;have HS:Hid (GRow sayF wr (some ⟨sb,so,none⟩) N.sn N.sc N.ss):=hide (by rw [← hsa]; exact h.s.below hb);have HSA:=hide hsa;have i1:(0:Int)≤(k:Int):=by omega
      have i2:(k:Int) < (N.sn:Int):=by omega
      have hmem:=List.mem_of_getElem? hy;have HY:=hide hy;have HSS:=hide hss;have vv:Below wr.heap.size wr wr.drew:=zq (Below.refl _ _);have hls:=hlsz.out;have hwl:IntKind.i64.wrap ((N.ln:Int) - 1)=(N.ln:Int) - 1:=by rw [IntKind.wrap_i64]; omega
      clear hy hss hsa;cases h1:(decide (0≤y.l) && decide (y.l≤(N.ln:Int) - 1))
      ·have HNO:Hid ((false=true)↔NetOk N.brs N.ls N.ss):=hide (zaD fun hp=>by
        have:=(hp.2.2.2.2 y hmem).1
        rw [hls,h1] at this;cases this)
       (go_wp2_with fail);refine wp_region_held_drew (S:=(fun W=>(zcc W w.heap.size 0 (.slice N.ba N.bn N.bc)∧zcc W w.heap.size 1 (.slice N.la N.ln N.lc)∧zcc W w.heap.size 2 (.slice (some ⟨sb,so,none⟩) N.sn N.sc))∧(zcc W sb (so+k*7) (.int .i64 y.l)∧zcc W sb (so+k*7+1) (.bool y.back)∧zcc W sb (so+k*7+2) (.int .i64 y.v.r)∧zcc W sb (so+k*7+3) (.int .i64 y.v.c)∧zcc W sb (so+k*7+4) (.int .i64 y.v.h)∧zcc W sb (so+k*7+5) (.int .i64 y.v.b)∧zcc W sb (so+k*7+6) (.int .i64 y.v.p)))) (by kernel_rfl) (⟨by have:=zd (za kNe vv); rw [HSA.out] at this; exact this,zby HS.out vv HY.out⟩) (fun hHeld => ?_);refine kK 0 ?_;refine kK 1 ?_;refine kK 2 ?_;refine kK 3 ?_;refine kK 4 ?_;refine kK 5 ?_;refine kK 6 ?_;refine kK 7 ?_;refine kK 8 ?_;refine kK 9 ?_;refine kR 10 fun K hK => ?_
       go_simp;refine (zg y.l 0 ((N.ln:Int) - 1) _).mono ?_;rintro r wz ⟨rfl,ew⟩;obtain rfl:=ew.symm;rw [h1];(go_wp2_with fail);refine kO hK (⟨by have:=zd (za kNe vv); rw [HSA.out] at this; exact this,zby HS.out vv HY.out⟩) fun hHeld => ?_
       clear hK K;refine kK 11 ?_;refine kK 12 ?_;refine kN 13 ?_;refine kN 14 ?_;refine kN 15 ?_;refine kN 16 ?_;refine kN 17 ?_;refine kN 18 ?_;refine kN 19 ?_;refine kN 20 ?_;refine kK 21 ?_;refine wpAnyH_done (by kernel_rfl) ?_ _;have HB:=hide (zc hb vv);clear hHeld vv kNe;go_wp2;go_ret;exact ⟨false,rfl,HNO.out,HB.out⟩
      ·cases h2:okVc y.v.r y.v.c y.v.h y.v.b y.v.p
       ·have HNO:Hid ((false=true)↔NetOk N.brs N.ls N.ss):=hide (zaD fun hp=>by
         have:=(hp.2.2.2.2 y hmem).2
         unfold okVd at this;rw [h2] at this;cases this)
        (go_wp2_with fail);refine wp_region_held_drew (S:=(fun W=>(zcc W w.heap.size 0 (.slice N.ba N.bn N.bc)∧zcc W w.heap.size 1 (.slice N.la N.ln N.lc)∧zcc W w.heap.size 2 (.slice (some ⟨sb,so,none⟩) N.sn N.sc))∧(zcc W sb (so+k*7) (.int .i64 y.l)∧zcc W sb (so+k*7+1) (.bool y.back)∧zcc W sb (so+k*7+2) (.int .i64 y.v.r)∧zcc W sb (so+k*7+3) (.int .i64 y.v.c)∧zcc W sb (so+k*7+4) (.int .i64 y.v.h)∧zcc W sb (so+k*7+5) (.int .i64 y.v.b)∧zcc W sb (so+k*7+6) (.int .i64 y.v.p)))) (by kernel_rfl) (⟨by have:=zd (za kNe vv); rw [HSA.out] at this; exact this,zby HS.out vv HY.out⟩) (fun hHeld => ?_);refine kK 0 ?_;refine kK 1 ?_;refine kK 2 ?_;refine kK 3 ?_;refine kK 4 ?_;refine kK 5 ?_;refine kK 6 ?_;refine kK 7 ?_;refine kK 8 ?_;refine kK 9 ?_;refine kR 10 fun K hK => ?_
        go_simp;refine (zg y.l 0 ((N.ln:Int) - 1) _).mono ?_;rintro r wz ⟨rfl,ew⟩;obtain rfl:=ew.symm;rw [h1];(go_wp2_with fail);refine kO hK (⟨by have:=zd (za kNe vv); rw [HSA.out] at this; exact this,zby HS.out vv HY.out⟩) fun hHeld => ?_
        clear hK K;refine kK 11 ?_;refine kK 12 ?_;refine kK 13 ?_;refine kK 14 ?_;refine kK 15 ?_;refine kK 16 ?_;refine kK 17 ?_;refine kK 18 ?_;refine kR 19 fun K hK => ?_
        go_simp;refine (zav y.v.r y.v.c y.v.h y.v.b y.v.p _).mono ?_;rintro r wz ⟨rfl,hbz⟩;rw [h2];have vv:=zc vv hbz;(go_wp2_with fail);refine kO hK (⟨by have:=zd (za kNe vv); rw [HSA.out] at this; exact this,zby HS.out vv HY.out⟩) fun hHeld => ?_
        clear hK K;refine kK 20 ?_;refine kK 21 ?_;refine wpAnyH_done (by kernel_rfl) ?_ _;have HB:=hide (zc hb vv);clear hHeld vv kNe;go_wp2;go_ret;exact ⟨false,rfl,HNO.out,HB.out⟩
       ·have HYES:=hide (zbM HY.out HSS.out (P:=SayOk N.ls) ⟨by rw [hls]; exact h1,h2⟩);(go_wp2_with fail);refine wp_region_held_drew (S:=(fun W=>(zcc W w.heap.size 0 (.slice N.ba N.bn N.bc)∧zcc W w.heap.size 1 (.slice N.la N.ln N.lc)∧zcc W w.heap.size 2 (.slice (some ⟨sb,so,none⟩) N.sn N.sc))∧(zcc W sb (so+k*7) (.int .i64 y.l)∧zcc W sb (so+k*7+1) (.bool y.back)∧zcc W sb (so+k*7+2) (.int .i64 y.v.r)∧zcc W sb (so+k*7+3) (.int .i64 y.v.c)∧zcc W sb (so+k*7+4) (.int .i64 y.v.h)∧zcc W sb (so+k*7+5) (.int .i64 y.v.b)∧zcc W sb (so+k*7+6) (.int .i64 y.v.p)))) (by kernel_rfl) (⟨by have:=zd (za kNe vv); rw [HSA.out] at this; exact this,zby HS.out vv HY.out⟩) (fun hHeld => ?_);refine kK 0 ?_;refine kK 1 ?_;refine kK 2 ?_;refine kK 3 ?_;refine kK 4 ?_;refine kK 5 ?_;refine kK 6 ?_;refine kK 7 ?_;refine kK 8 ?_;refine kK 9 ?_;refine kR 10 fun K hK => ?_
        go_simp;refine (zg y.l 0 ((N.ln:Int) - 1) _).mono ?_;rintro r wz ⟨rfl,ew⟩;obtain rfl:=ew.symm;rw [h1];(go_wp2_with fail);refine kO hK (⟨by have:=zd (za kNe vv); rw [HSA.out] at this; exact this,zby HS.out vv HY.out⟩) fun hHeld => ?_
        clear hK K;refine kK 11 ?_;refine kK 12 ?_;refine kK 13 ?_;refine kK 14 ?_;refine kK 15 ?_;refine kK 16 ?_;refine kK 17 ?_;refine kK 18 ?_;refine kR 19 fun K hK => ?_
        go_simp;refine (zav y.v.r y.v.c y.v.h y.v.b y.v.p _).mono ?_;rintro r wz ⟨rfl,hbz⟩;rw [h2];have vv:=zc vv hbz;(go_wp2_with fail);refine kO hK (⟨by have:=zd (za kNe vv); rw [HSA.out] at this; exact this,zby HS.out vv HY.out⟩) fun hHeld => ?_
        clear hK K;refine kK 20 ?_;refine kK 21 ?_;refine wpAnyH_done (by kernel_rfl) ?_ _;have HB:=hide (zc hb vv);have HK:=hide (za kNe vv);clear hHeld vv kNe;go_wp2
        go_roundw
        case rel=>exact ⟨k+1,by omega,by go_num,HYES.out,HK.out,HB.out⟩
        case measure=>simp [intOf]; omega
     ·have hkn:k=N.sn:=by omega
      rw [List.take_of_length_le (by have:=hssz.out; omega)] at hss;have HP:Hid (NetOk N.brs N.ls N.ss):=hide (⟨HBR.out.1,⟨by have:=hlsz.out; omega,HLK.out⟩,HBR.out.2,by have:=hssz.out; omega,hss⟩);clear hss;go_wp2;go_ret;exact ⟨true,rfl,zeE HP.out,hb⟩

theorem PtAt.later {w w':World} {v:Option Addr} {o:Option PT} (h:PtAt w v o) (hb:Below w.heap.size w w'):PtAt w' v o:=by
 cases o with
 | none=>exact h
 | some y =>
  obtain ⟨g,j,e,c⟩:=h;exact ⟨g,j,e,(hb.cell (zp c)).trans c⟩

theorem za9 (N:NV) (k:Int) (w:World) (h:zaa w N) :
  Calls Tryz.prog 25 #[.agg #[.slice N.ba N.bn N.bc,.slice N.la N.ln N.lc,.slice N.sa N.sn N.sc],.int .i64 k] w fun e w'=>e=.returned (.bool (zT N.brs N.ls k))∧Below w.heap.size w w':=by
 have hle:=Nat.le_trans h.l.le h.l.top;unfold maxLen at hle;have hsz:=h.l.size;generalize hG:zT N.brs N.ls k=U;have HG:=hide hG;clear hG;generalize hw1:w.alloc (Obj.cells #[.slice N.ba N.bn N.bc,.slice N.la N.ln N.lc,.slice N.sa N.sn N.sc] 28)=w1;have b01:=zb hw1;have k1:=zk hw1;obtain ⟨x0,x1,x2⟩:=zd k1;cases hA:(decide (0≤k) && decide (k≤(N.ln:Int) - 1))
 ·have HF:Hid (U=false):=hide (by
   rw [← HG.out];unfold zT
   split
   ·rw [List.getElem?_eq_none (by simp at hA; omega)]
   ·rfl)
  go_enter Tryz.func25,Tryz.ntmps25;(go_wp2_with fail);refine (zP k 0 ((N.ln:Int) - 1) _).mono ?_;rintro e w2 ⟨rfl,ew⟩;obtain rfl:=ew.symm;rw [hA];clear hA;go_wp2;go_ret;exact ⟨by rw [HF.out]; rfl,b01⟩
 ·obtain ⟨j,rfl⟩:∃j:Nat,k=(j:Int):=⟨k.toNat,by simp at hA; omega⟩;have hj:j < N.ln:=by simp at hA; omega
  obtain ⟨x,lb,off,hx,hla,a0,a1,a2,a3⟩:=zao (h.l.below b01) j hj;have HG:Hid ((upAt N.brs x.a x.p && upAt N.brs x.b x.q)=U):=hide (by rw [← HG.out]; unfold zT; rw [if_pos (by omega),Int.toNat_natCast,hx]);have i1:(0:Int)≤(j:Int):=by omega
  have i2:(j:Int) < (N.ln:Int):=by omega
  rw [hla] at x1;clear hx hla;go_enter Tryz.func25,Tryz.ntmps25;(go_wp2_with fail);refine (zP (j:Int) 0 ((N.ln:Int) - 1) _).mono ?_;rintro e w2 ⟨rfl,ew⟩;obtain rfl:=ew.symm;rw [hA];clear hA;(go_wp2_with fail);refine (zco x _).mono ?_;rintro e we ⟨rfl,hbe⟩;have kNe:=za k1 hbe;have b0e:=zc b01 hbe;clear x0 x1 x2 a0 a1 a2 a3 k1 hbe;generalize hwq:we.alloc (Obj.cells #[.int .i64 x.a,.int .i64 x.p,.int .i64 x.b,.int .i64 x.q] 69)=wq;have bq:=zb hwq;have kE:=zk hwq;have kNe:=za kNe bq;have bq:=zc b0e bq;clear b0e;have vv:Below wq.heap.size wq wq.drew:=zq (Below.refl _ _);(go_wp2_with fail);refine wp_region_held_drew (S:=(fun W=>(zcc W w.heap.size 0 (.slice N.ba N.bn N.bc)∧zcc W w.heap.size 1 (.slice N.la N.ln N.lc)∧zcc W w.heap.size 2 (.slice N.sa N.sn N.sc))∧(zcc W we.heap.size 0 (.int .i64 x.a)∧zcc W we.heap.size 1 (.int .i64 x.p)∧zcc W we.heap.size 2 (.int .i64 x.b)∧zcc W we.heap.size 3 (.int .i64 x.q)))) (by kernel_rfl) (⟨zd (za kNe vv),zE (za kE vv)⟩) (fun hHeld => ?_);refine kK 0 ?_;refine kK 1 ?_;refine kK 2 ?_;refine kK 4 ?_;refine kK 5 ?_;refine kK 6 ?_;refine kR 3 fun K hK => ?_
  go_simp;refine (zdm N x.a x.p _ (h.below (zc bq vv))).mono ?_;rintro r wz ⟨v1,rfl,v1P,hbz⟩;have v1P:=PtAt.later v1P hbz;(try have v2P:=PtAt.later v2P hbz);have vv:=zc vv hbz;(go_wp2_with fail);refine kO hK (⟨zd (za kNe vv),zE (za kE vv)⟩) fun hHeld => ?_
  clear hK K;refine kR 7 fun K hK => ?_
  go_simp;refine (zdm N x.b x.q _ (h.below (zc bq vv))).mono ?_;rintro r wz ⟨v2,rfl,v2P,hbz⟩;have v2P:=PtAt.later v2P hbz;(try have v1P:=PtAt.later v1P hbz);have vv:=zc vv hbz;(go_wp2_with fail);refine kO hK (⟨zd (za kNe vv),zE (za kE vv)⟩) fun hHeld => ?_
  clear hK K;refine kK 8 ?_;refine kK 9 ?_;refine wpAnyH_done (by kernel_rfl) ?_ _;have HB:=hide (zc bq vv);have bz:=zc bq vv;clear hHeld kNe kE vv;cases hP:zad N.brs x.a x.p with
  | none =>
   rw [hP] at v1P;have e1:v1=none:=v1P;subst e1;have HF:Hid (U=false):=hide (by rw [← HG.out]; unfold upAt; rw [hP]; rfl);clear bz v2P v1P;go_wp2;go_ret;exact ⟨by rw [HF.out]; rfl,HB.out⟩
  | some y1 =>
   rw [hP] at v1P;obtain ⟨p1,o1,rfl,q1⟩:=v1P;cases hQ:zad N.brs x.b x.q with
   | none =>
    rw [hQ] at v2P;have e2:v2=none:=v2P;subst e2;have HF:Hid (U=false):=hide (by rw [← HG.out]; unfold upAt; rw [hQ]; simp);clear bz v2P q1;go_wp2;go_ret;exact ⟨by rw [HF.out]; rfl,HB.out⟩
   | some y2 =>
    rw [hQ] at v2P;obtain ⟨p2,o2,rfl,q2⟩:=v2P;have HF:Hid (U=(y1.up && y2.up)):=hide (by rw [← HG.out]; unfold upAt; rw [hP,hQ]);clear bz hP hQ;cases h1:y1.up
    ·rw [h1] at q1;have HF:Hid (U=false):=hide (by rw [HF.out,h1]; rfl);go_wp2;go_ret;exact ⟨by rw [HF.out]; rfl,HB.out⟩
    ·rw [h1] at q1;have HF:Hid (U=y2.up):=hide (by rw [HF.out,h1]; rfl);go_wp2;go_ret;exact ⟨by rw [HF.out]; rfl,HB.out⟩

end Go.Proofs.YtkaefmfopejbaaaGreat
