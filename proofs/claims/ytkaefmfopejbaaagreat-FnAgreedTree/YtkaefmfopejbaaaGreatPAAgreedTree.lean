/-
  FnAgreedTree answers true of every code: where a drawn net agrees what is live has no loops, joins all that is joined, and has as many links as bridges that are not a root.
-/
import Derived.Test.YtkaefmfopejbaaaGreatPAK22
import Derived.Test.YtkaefmfopejbaaaGreatPAK40
namespace Go.Proofs.YtkaefmfopejbaaaGreat
set_option maxRecDepth 100000
set_option maxHeartbeats 16000000
open Go.RowKit

theorem zl5 {bs:List BR} {ls:List LK} {ss:List SY} (h:NetOk bs ls ss) (x:LK) (hx:x∈ls):x.Rng:=by
 obtain ⟨⟨-,u,v,hu,hv,-⟩,-⟩:=h.2.1.2 x hx;obtain ⟨i,j,A,ea,ep,hA,hpA⟩:=zaK hu;obtain ⟨i2,j2,D,eb,eq,hD,hpD⟩:=zaK hv;have h1:=(List.getElem?_eq_some_iff.1 hA).1;have h2:=(List.getElem?_eq_some_iff.1 hD).1;have h3:=zbF (h.1.1 A (List.mem_of_getElem? hA)) hpA;have h4:=zbF (h.1.1 D (List.mem_of_getElem? hD)) hpD;have h6:=h.1.2.2.2;unfold LK.Rng I64;omega

theorem ziH (bs:List BR) (ls:List LK):∀k,(zY bs ls k).length≤k
 | 0=>Nat.le_refl _
 | k+1=>by
  have:=ziH bs ls k
  rw [zY]
  split
  ·rw [List.length_append,List.length_singleton];omega
  ·omega

def cntR (bs:List BR) (ls:List LK) (n:Nat):Nat:=(List.range n).countP (fun u:Nat=>decide (zbI bs ls bs.length (u:Int)=idOf bs (u:Int)))
theorem zlN {bs:List BR} {ls:List LK} {i:Nat} (h:zbI bs ls bs.length (i:Int)=idOf bs (i:Int)):cntR bs ls (i+1)=cntR bs ls i+1:=by
 unfold cntR;rw [List.range_succ,List.countP_append]
 simp [h]
theorem zmN {bs:List BR} {ls:List LK} {i:Nat} (h:¬zbI bs ls bs.length (i:Int)=idOf bs (i:Int)):cntR bs ls (i+1)=cntR bs ls i:=by
 unfold cntR;rw [List.range_succ,List.countP_append]
 simp [h]
theorem zmM (bs:List BR) (ls:List LK) (n:Nat):cntR bs ls n≤n:=by
 have:=List.countP_le_length (p:=fun u:Nat=>decide (zbI bs ls bs.length (u:Int)=idOf bs (u:Int))) (l:=List.range n)
 rw [List.length_range] at this;exact this
theorem zl7 {bs:List BR} {ls:List LK} {ss:List SY} (h:NetOk bs ls ss) (ha:agreed bs ls=true):(zY bs ls ls.length).length+cntR bs ls bs.length=bs.length:=by
 have h1:=zgq h ha;have h2:=ziP h ha;unfold cntR;omega

theorem ze7 (a0:Option Addr) (l0 c0:Nat) (z0:List Int) (w:World) (h0:Row w a0 l0 c0 z0) :
  Calls Tryz.prog 3 #[.slice a0 l0 c0] w fun e w'=>e=.returned (.bool true)∧Below w.heap.size w w':=by
 by_cases hbig:1048576 < l0
 ·have hb1:Calls Tryz.prog 5 #[.slice a0 l0 c0] w fun e w'=>e=.returned (.bool true)∧w'=w:=by
   have i1:(1048576:Int) < l0:=by omega
   go_enter Tryz.func5,Tryz.ntmps5;go_wp2;go_ret;exact ⟨rfl,rfl⟩
  go_enter Tryz.func3,Tryz.ntmps3;go_wp2_with (go_at_call 5; refine hb1.mono ?_; rintro e w' ⟨rfl,rfl⟩)
  go_ret;exact ⟨rfl,Below.refl _ _⟩
 obtain ⟨xa,xa0,xa1,hat⟩:=zmI a0 l0 c0 z0 (by omega);go_enter Tryz.func3,Tryz.ntmps3;go_wp2_with (go_at_call 5; refine (znk a0 l0 c0 _ hbig).mono ?_; rintro e w' ⟨rfl,e3⟩; obtain rfl:=e3.symm)
 refine (zil a0 l0 c0 z0 _ h0 (by omega)).mono ?_;rintro e w1 ⟨N,ao,cap,l,rfl,oN,hok,-,-,bw⟩;have HOK:=hide hok;generalize hwb:w1.alloc (Obj.cells #[.slice N.ba N.bn N.bc,.slice N.la N.ln N.lc,.slice N.sa N.sn N.sc] 28)=w2;have bb0:=zb hwb;have kN:=zk hwb;have oN:=oN.below bb0;have bw:=zc bw bb0;generalize hXN:w1.heap.size=XN at *;clear hok bb0;obtain ⟨kk,hkk,hk0,hk1⟩:∃kk:Int,xa.tmod 22=kk∧0≤kk∧kk≤21:=⟨xa % 22,Int.tmod_eq_emod_of_nonneg xa0,by omega,by omega⟩;have HXL:Hid (XN < w2.heap.size):=hide (Array.getElem?_eq_some_iff.1 kN).1;have HWS:Hid (w.heap.size≤w2.heap.size):=hide bw.size;obtain ⟨x0,x1,x2⟩:=zd kN;have vv:Below w2.heap.size w2 w2.drew:=zq (Below.refl _ _);go_upto_region 4 with fail
 try rw [hwb]
 clear hwb x0 x1 x2
 go_cut [5] from 17 to 21 (fun s wx=>∃(Y:Nat) (X:NV),s=.pointer (some ⟨Y,0,none⟩)∧wx.heap[Y]? = some (.cells #[.slice X.ba X.bn X.bc,.slice X.la X.ln X.lc,.slice X.sa X.sn X.sc] 28)∧NOwn wx w2.heap.size X∧NetOk X.brs X.ls X.ss∧Below w.heap.size w wx)
 case first =>
  refine wp_region_held_drew (S:=(fun W=>(zcc W XN 0 (.slice N.ba N.bn N.bc)∧zcc W XN 1 (.slice N.la N.ln N.lc)∧zcc W XN 2 (.slice N.sa N.sn N.sc)))) (by kernel_rfl) ((by first | exact HS2.out | exact zd (za kN vv))) (fun hHeld => ?_);refine kK 0 ?_;refine kK 1 ?_;refine tR [2,5] ?_;refine kC (fun K hK => ?_) ?_
  ·go_simp;clear hHeld;refine (hat _ (h0.below (zc bw vv))).mono ?_;rintro e wt ⟨rfl,ewt⟩;obtain rfl:=ewt.symm;(go_wp2_with fail);refine kO hK ((by first | exact HS2.out | exact zd (za kN vv))) fun hHeld => ?_
   clear hK K;refine kK 3 ?_;refine tR [4,5] ?_;refine kC (fun K hK => ?_) ?_
   ·go_simp;clear hHeld;refine (zbX N kk _ (oN.row.below vv) ⟨by have:=(zbe oN.row HOK.out).1; omega,by have:=(zbe oN.row HOK.out).2.1; omega,by have:=(zbe oN.row HOK.out).2.2.1; omega,zci oN.row (fun B hB=>ok_sm (HOK.out.1.1 B hB))⟩ (fun B hB=>ok_rg (HOK.out.1.1 B hB))).mono ?_;rintro e w3 ⟨X,rfl,oX,hRX,hb3⟩;have oX:=oX.lt (base':=w2.heap.size) vv.size;have HOX:Hid (NetOk X.brs X.ls X.ss):=hide (zfF HOK.out (show zbT (min kk 30).toNat N.t X.t from hRX)).2.2.1;have vv:=zc vv hb3;(try have kZ:=za kZ hb3);clear hb3 hRX;(go_wp2_with fail);refine kO hK ((by first | exact HS2.out | exact zd (za kN vv))) fun hHeld => ?_
    clear hK K;refine kR 5 fun K hK => ?_
    go_simp;have HZS:=hide vv.size
    first
    | refine zw (K:=K _) (fun wx kZ hbx => ?_)
    | refine zo (K:=K _) (fun wx kZ hbx => ?_)
    have vv:=zc vv hbx;(try have oX:=oX.below hbx);clear hbx hHeld;refine kO hK ((by first | exact HS2.out | exact zd (za kN vv))) fun hHeld => ?_
    clear hK K;refine kR 6 fun K hK => ?_
    clear hHeld;obtain ⟨p0,p1,p2⟩:=zd kZ;have f0:=zf kZ 0;have f1:=zf kZ 1;have f2:=zf kZ 2;go_simp;clear p0 p1 p2 f0 f1 f2;refine zZ (K:=K _) kZ _ _ _ (fun wq kX gq => ?_);have oX:=oX.boxed kZ gq;have kN:=ze (za kN vv) gq (by intro j e; cases e; have:=HZS.out; have:=HXL.out; (try simp only [World.size_drew] at *); omega);have HS2:=hide (zd kN);have bX:=(zc bw vv).grown gq (zc bw vv).size (fun j e=>by cases e; have:=HZS.out; have:=HWS.out; (try simp only [World.size_drew] at *); omega);clear gq kN;refine kO hK ((by first | exact HS2.out | exact zd (za kN vv))) fun hHeld => ?_
    clear hK K;refine wpAnyH_done (by kernel_rfl) ?_ _;clear hHeld vv HS2 HZS;(go_wp2_with fail)
    go_meet
    exact ⟨_,X,rfl,kX,oX,HOX.out,bX⟩
   refine kC (fun K hK => ?_) ?_
   ·go_simp;have HZS:=hide vv.size
    first
    | refine zw (K:=K _) (fun wx kZ hbx => ?_)
    | refine zo (K:=K _) (fun wx kZ hbx => ?_)
    have vv:=zc vv hbx;(try have oX:=oX.below hbx);clear hbx hHeld;refine kO hK ((by first | exact HS2.out | exact zd (za kN vv))) fun hHeld => ?_
    clear hK K;refine kR 4 fun K hK => ?_
    go_simp;clear hHeld;refine (zbX N kk _ (oN.row.below vv) ⟨by have:=(zbe oN.row HOK.out).1; omega,by have:=(zbe oN.row HOK.out).2.1; omega,by have:=(zbe oN.row HOK.out).2.2.1; omega,zci oN.row (fun B hB=>ok_sm (HOK.out.1.1 B hB))⟩ (fun B hB=>ok_rg (HOK.out.1.1 B hB))).mono ?_;rintro e w3 ⟨X,rfl,oX,hRX,hb3⟩;have oX:=oX.lt (base':=w2.heap.size) vv.size;have HOX:Hid (NetOk X.brs X.ls X.ss):=hide (zfF HOK.out (show zbT (min kk 30).toNat N.t X.t from hRX)).2.2.1;have vv:=zc vv hb3;(try have kZ:=za kZ hb3);clear hb3 hRX;(go_wp2_with fail);refine kO hK ((by first | exact HS2.out | exact zd (za kN vv))) fun hHeld => ?_
    clear hK K;refine kR 6 fun K hK => ?_
    clear hHeld;obtain ⟨p0,p1,p2⟩:=zd kZ;have f0:=zf kZ 0;have f1:=zf kZ 1;have f2:=zf kZ 2;go_simp;clear p0 p1 p2 f0 f1 f2;refine zZ (K:=K _) kZ _ _ _ (fun wq kX gq => ?_);have oX:=oX.boxed kZ gq;have kN:=ze (za kN vv) gq (by intro j e; cases e; have:=HZS.out; have:=HXL.out; (try simp only [World.size_drew] at *); omega);have HS2:=hide (zd kN);have bX:=(zc bw vv).grown gq (zc bw vv).size (fun j e=>by cases e; have:=HZS.out; have:=HWS.out; (try simp only [World.size_drew] at *); omega);clear gq kN;refine kO hK ((by first | exact HS2.out | exact zd (za kN vv))) fun hHeld => ?_
    clear hK K;refine wpAnyH_done (by kernel_rfl) ?_ _;clear hHeld vv HS2 HZS;(go_wp2_with fail)
    go_meet
    exact ⟨_,X,rfl,kX,oX,HOX.out,bX⟩
   exact AllReadyH.nil
  refine kC (fun K hK => ?_) ?_
  ·go_simp;have HZS:=hide vv.size
   first
   | refine zw (K:=K _) (fun wx kZ hbx => ?_)
   | refine zo (K:=K _) (fun wx kZ hbx => ?_)
   have vv:=zc vv hbx;(try have oX:=oX.below hbx);clear hbx hHeld;refine kO hK ((by first | exact HS2.out | exact zd (za kN vv))) fun hHeld => ?_
   clear hK K;refine kR 2 fun K hK => ?_
   go_simp;clear hHeld;refine (hat _ (h0.below (zc bw vv))).mono ?_;rintro e wt ⟨rfl,ewt⟩;obtain rfl:=ewt.symm;(go_wp2_with fail);refine kO hK ((by first | exact HS2.out | exact zd (za kN vv))) fun hHeld => ?_
   clear hK K;refine kK 3 ?_;refine kR 4 fun K hK => ?_
   go_simp;clear hHeld;refine (zbX N kk _ (oN.row.below vv) ⟨by have:=(zbe oN.row HOK.out).1; omega,by have:=(zbe oN.row HOK.out).2.1; omega,by have:=(zbe oN.row HOK.out).2.2.1; omega,zci oN.row (fun B hB=>ok_sm (HOK.out.1.1 B hB))⟩ (fun B hB=>ok_rg (HOK.out.1.1 B hB))).mono ?_;rintro e w3 ⟨X,rfl,oX,hRX,hb3⟩;have oX:=oX.lt (base':=w2.heap.size) vv.size;have HOX:Hid (NetOk X.brs X.ls X.ss):=hide (zfF HOK.out (show zbT (min kk 30).toNat N.t X.t from hRX)).2.2.1;have vv:=zc vv hb3;(try have kZ:=za kZ hb3);clear hb3 hRX;(go_wp2_with fail);refine kO hK ((by first | exact HS2.out | exact zd (za kN vv))) fun hHeld => ?_
   clear hK K;refine kR 6 fun K hK => ?_
   clear hHeld;obtain ⟨p0,p1,p2⟩:=zd kZ;have f0:=zf kZ 0;have f1:=zf kZ 1;have f2:=zf kZ 2;go_simp;clear p0 p1 p2 f0 f1 f2;refine zZ (K:=K _) kZ _ _ _ (fun wq kX gq => ?_);have oX:=oX.boxed kZ gq;have kN:=ze (za kN vv) gq (by intro j e; cases e; have:=HZS.out; have:=HXL.out; (try simp only [World.size_drew] at *); omega);have HS2:=hide (zd kN);have bX:=(zc bw vv).grown gq (zc bw vv).size (fun j e=>by cases e; have:=HZS.out; have:=HWS.out; (try simp only [World.size_drew] at *); omega);clear gq kN;refine kO hK ((by first | exact HS2.out | exact zd (za kN vv))) fun hHeld => ?_
   clear hK K;refine wpAnyH_done (by kernel_rfl) ?_ _;clear hHeld vv HS2 HZS;(go_wp2_with fail)
   go_meet
   exact ⟨_,X,rfl,kX,oX,HOX.out,bX⟩
  exact AllReadyH.nil
 case rest =>
  obtain ⟨XX,X,rfl,kX,oX,hox,bX⟩:=hcut;have HOX:=hide hox;clear vv hox;have hxz:=oX.row.b.size;have HXL:Hid (X.brs.length=X.bn):=hide (by rw [zc0]; exact hxz);have HLS:Hid (X.ls.length=X.ln):=hide oX.row.l.size;have hsz:=zbe oX.row HOX.out;have HBN6:Hid (X.bn≤1048576):=hide (by omega);obtain ⟨x0,x1,x2⟩:=zd kX;clear hxz;(go_wp2_with fail);refine (zfY X _ oX.row).mono ?_;rintro e w4 ⟨rfl,hb4⟩;have oX:=oX.below hb4;have kX:=za kX hb4;have bX:=zc bX hb4;clear hb4 x0 x1 x2;obtain ⟨x0,x1,x2⟩:=zd kX;cases hag:agreed X.brs X.ls
  ·(go_wp2_with fail);refine (zf4 X _ oX.row).mono ?_;rintro e w5 ⟨rfl,hb5⟩;rw [hag];have HB:=hide (zc bX hb5);clear hb5 hag x0 x1 x2;go_wp2;go_ret;exact ⟨rfl,HB.out⟩
  ·have HAG:=hide hag;clear hag;(go_wp2_with fail);refine (zgR X _ oX.row (by omega) (fun x hx=>zl5 HOX.out x hx)).mono ?_;rintro e w5 ⟨la,lc,rfl,oL,hb5⟩;have oX:=oX.below hb5;have kX:=za kX hb5;have bX:=zc bX hb5;clear hb5 x0 x1 x2;obtain ⟨x0,x1,x2⟩:=zd kX;(go_wp2_with fail);refine (zcR X _ oX.row (by omega)).mono ?_;rintro e w6 ⟨ua,uc,rfl,oU,hb6⟩;have oX:=oX.below hb6;have kX:=za kX hb6;have bX:=zc bX hb6;have oL:=zh oL hb6;clear hb6 x0 x1 x2;obtain ⟨x0,x1,x2⟩:=zd kX;have HLL:Hid ((zY X.brs X.ls X.ln).length≤1048576):=hide (by have:=ziH X.brs X.ls X.ln; omega);have HUL:Hid ((upTo X.brs X.ls X.ln).length≤1048576):=hide (by have:=ze0 X.brs X.ls X.ln; omega);have HJS:Hid (∀b:Int,joined X.bn X.ls b (zY X.brs X.ls X.ln)=joined X.bn X.ls b (upTo X.brs X.ls X.ln)):=hide (fun b=>by have:=zf2 HOX.out HAG.out b; rw [HXL.out,HLS.out] at this; exact this);have HLC:Hid ((zY X.brs X.ls X.ln).length+cntR X.brs X.ls X.bn=X.bn):=hide (by have:=zl7 HOX.out HAG.out; rw [HXL.out,HLS.out] at this; exact this);have HL0:Hid (zY X.brs X.ls X.ln=zY X.brs X.ls X.ls.length):=hide (by rw [HLS.out]);obtain ⟨-,bb,off,-,hba,-⟩:=br_at oX.row.b 0 (by have:=HOX.out.1.2.2.1; rw [HXL.out] at this; omega);have HBA:=hide hba;have HGB:Hid (GRow brF w6 (some ⟨bb,off,none⟩) X.bn X.bc X.bs):=hide (by rw [← hba]; exact oX.row.b);clear hba;(go_wp2_with fail)
   go_loopw [8,9] (fun s v wr=>∃i:Nat,i≤X.bn∧v=.int .i64 i∧s=.int .i64 (cntR X.brs X.ls i:Nat)∧Below w6.heap.size w6 wr) (fun _ v _=>X.bn - (intOf v).toNat)
   case atStart=>exact ⟨0,Nat.zero_le _,rfl,rfl,Below.refl _ _⟩
   case round =>
    clear x0 x1 x2;obtain ⟨i,hi,rfl,rfl,hb⟩:=hrel;obtain ⟨x0,x1,x2⟩:=zd (za kX hb);by_cases hlt:i < X.bn
    ·have i0:(0:Int)≤(i:Int):=by omega
     have i1:(i:Int) < (X.bn:Int):=by omega
     have hn6:(X.bn:Int)≤6:=by omega
     obtain ⟨y,-,-,hy,-⟩:=br_at oX.row.b i hlt;have HALL:Hid (∀W,Below w6.heap.size w6 W→(zcc W XX 0 (.slice (some ⟨bb,off,none⟩) X.bn X.bc)∧zcc W XX 1 (.slice X.la X.ln X.lc)∧zcc W XX 2 (.slice X.sa X.sn X.sc))∧zcc W bb (off+i*11) (.int .i64 y.B.id)):=hide (fun W hW=>by
      obtain ⟨u0,u1,u2⟩:=zd (za kX hW);rw [HBA.out] at u0;exact ⟨⟨u0,u1,u2⟩,(zF HGB.out hW hy).1⟩)
     have hrt:=fun W hW=>zfp X i W hW hlt (by omega) (by omega)
     have HID:=hide (zku hy);have HJI:Hid (I64s (joined X.bn X.ls (i:Int) (zY X.brs X.ls X.ln))∧I64s (joined X.bn X.ls (i:Int) (upTo X.brs X.ls X.ln))):=hide ⟨fun z hz=>by have:=zfu hz; omega,fun z hz=>by have:=zfu hz; omega⟩;have hc9:=zmM X.brs X.ls i;have vv:Below wr.heap.size wr wr.drew:=zq (Below.refl _ _);clear hy;(go_upto_region 13 with fail);clear x0 x1 x2
     go_cut [48] from 39 to 48 (fun s wx=>s=.bool (decide (zbI X.brs X.ls X.brs.length (i:Int)=idOf X.brs (i:Int)))∧Below w6.heap.size w6 wx)
     case first =>
      by_cases hre:zbI X.brs X.ls X.bn (i:Int)=y.B.id
      ·have HRT:Hid (zbI X.brs X.ls X.brs.length (i:Int)=idOf X.brs (i:Int)):=hide (by rw [HXL.out,HID.out]; exact hre);rw [hre] at hrt;clear hre;refine wp_region_held_drew (S:=(fun W=>(zcc W XX 0 (.slice (some ⟨bb,off,none⟩) X.bn X.bc)∧zcc W XX 1 (.slice X.la X.ln X.lc)∧zcc W XX 2 (.slice X.sa X.sn X.sc))∧zcc W bb (off+i*11) (.int .i64 y.B.id))) (by kernel_rfl) (HALL.out _ (zc hb vv)) (fun hHeld => ?_);refine kK 0 ?_;refine kK 1 ?_;refine kK 3 ?_;refine kK 4 ?_;refine kK 5 ?_;refine kK 6 ?_;refine kK 7 ?_;refine kK 8 ?_;refine kR 2 fun K hK => ?_
       go_simp;clear hHeld;rw [← HBA.out];refine (hrt _ (oX.row.below (zc hb vv))).mono ?_;rintro e w6 ⟨rfl,hb6⟩;have vv:=zc vv hb6;clear hb6;(go_wp2_with fail);refine kO hK (HALL.out _ (zc hb vv)) fun hHeld => ?_
       clear hK K;refine kV 9 (.bool true) ?_;refine wpAnyH_done (by kernel_rfl) ?_ _;clear hHeld;have HB:=hide (zc hb vv);clear hb vv;(go_wp2_with fail)
       go_meet
       exact ⟨congrArg Value.bool (decide_eq_true HRT.out).symm,HB.out⟩
      ·have HRT:Hid (¬zbI X.brs X.ls X.brs.length (i:Int)=idOf X.brs (i:Int)):=hide (by rw [HXL.out,HID.out]; exact hre);generalize zbI X.brs X.ls X.bn (i:Int)=R at hrt hre;refine wp_region_held_drew (S:=(fun W=>(zcc W XX 0 (.slice (some ⟨bb,off,none⟩) X.bn X.bc)∧zcc W XX 1 (.slice X.la X.ln X.lc)∧zcc W XX 2 (.slice X.sa X.sn X.sc))∧zcc W bb (off+i*11) (.int .i64 y.B.id))) (by kernel_rfl) (HALL.out _ (zc hb vv)) (fun hHeld => ?_);refine kK 0 ?_;refine kK 1 ?_;refine kK 3 ?_;refine kK 4 ?_;refine kK 5 ?_;refine kK 6 ?_;refine kK 7 ?_;refine kK 8 ?_;refine kR 2 fun K hK => ?_
       go_simp;clear hHeld;rw [← HBA.out];refine (hrt _ (oX.row.below (zc hb vv))).mono ?_;rintro e w6 ⟨rfl,hb6⟩;have vv:=zc vv hb6;clear hb6;(go_wp2_with fail);refine kO hK (HALL.out _ (zc hb vv)) fun hHeld => ?_
       clear hK K;refine kV 9 (.bool false) ?_;refine wpAnyH_done (by kernel_rfl) ?_ _;clear hHeld;have HB:=hide (zc hb vv);clear hb vv;(go_wp2_with fail)
       go_meet
       exact ⟨congrArg Value.bool (decide_eq_false HRT.out).symm,HB.out⟩
     case rest =>
      obtain ⟨rfl,hb⟩:=hcut;obtain ⟨wr,hwr⟩:∃u,u=wc:=⟨_,rfl⟩;subst hwr;by_cases hre:zbI X.brs X.ls X.brs.length (i:Int)=idOf X.brs (i:Int)
      ·have HCN:Hid (Value.int .i64 ((cntR X.brs X.ls i:Nat)+1:Int)=.int .i64 (cntR X.brs X.ls (i+1):Nat)):=hide (by rw [zlN hre]; rfl);rw [decide_eq_true hre];clear hre;obtain ⟨x0,x1,x2⟩:=zd (za kX hb);(go_upto_region 15 with fail);clear x0 x1 x2;have vv:Below wr.heap.size wr wr.drew:=zq (Below.refl _ _);refine wp_region_held_drew (S:=(fun W=>(zcc W XX 0 (.slice X.ba X.bn X.bc)∧zcc W XX 1 (.slice X.la X.ln X.lc)∧zcc W XX 2 (.slice X.sa X.sn X.sc)))) (by kernel_rfl) (zd (za kX (zc hb vv))) (fun hHeld => ?_);refine kK 0 ?_;refine kK 1 ?_;refine kK 2 ?_;refine kK 4 ?_;refine kK 5 ?_;refine kK 6 ?_;refine kR 3 fun K hK => ?_
       go_simp;clear hHeld;refine (za0 X (i:Int) la _ _ (zY X.brs X.ls X.ln) _ (oX.row.below (zc hb vv)) ((zC (F:=intF) oL).below (zc hb vv)) HLL.out HBN6.out).mono ?_;rintro e w7 ⟨jw7,cw7,rfl,ow7,hbj⟩;have vv:=zc vv hbj;clear hbj;(go_wp2_with fail);refine kO hK (zd (za kX (zc hb vv))) fun hHeld => ?_
       clear hK K;refine kR 7 fun K hK => ?_
       go_simp;clear hHeld;refine (za0 X (i:Int) ua _ _ (upTo X.brs X.ls X.ln) _ (oX.row.below (zc hb vv)) ((zC (F:=intF) oU).below (zc hb vv)) HUL.out HBN6.out).mono ?_;rintro e w8 ⟨jw8,cw8,rfl,ow8,hbj⟩;have vv:=zc vv hbj;have ow7:=zh ow7 hbj;clear hbj;(go_wp2_with fail);refine kO hK (zd (za kX (zc hb vv))) fun hHeld => ?_
       clear hK K;refine kR 8 fun K hK => ?_
       go_simp;clear hHeld;have hj:=HJS.out (i:Int);refine (zeN _ _ _ (joined X.bn X.ls (i:Int) (zY X.brs X.ls X.ln)) _ _ _ (joined X.bn X.ls (i:Int) (upTo X.brs X.ls X.ln)) _ (zdi (by rw [← zbw]; exact ow7) HJI.out.1) (zdi (by rw [← zbw]; exact ow8) HJI.out.2)).mono ?_;rintro e w9 ⟨rfl,n9,e9⟩;rw [decide_eq_true hj];have vv:Below wr.heap.size wr w9:=by rw [e9]; exact zdE vv n9
       clear e9 hj ow7 ow8;(go_wp2_with fail);refine kO hK (zd (za kX (zc hb vv))) fun hHeld => ?_
       clear hK K;refine kK 9 ?_;refine wpAnyH_done (by kernel_rfl) ?_ _;clear hHeld;have HB:=hide (zc hb vv);clear hb vv;go_wp2
       go_roundw
       case rel=>exact ⟨i+1,by omega,by go_num,HCN.out,HB.out⟩
       case measure=>simp [intOf]; omega
      ·have HCN:Hid (Value.int .i64 ((cntR X.brs X.ls i:Nat):Int)=.int .i64 (cntR X.brs X.ls (i+1):Nat)):=hide (by rw [zmN hre]);rw [decide_eq_false hre];clear hre;obtain ⟨x0,x1,x2⟩:=zd (za kX hb);(go_upto_region 15 with fail);clear x0 x1 x2;have vv:Below wr.heap.size wr wr.drew:=zq (Below.refl _ _);refine wp_region_held_drew (S:=(fun W=>(zcc W XX 0 (.slice X.ba X.bn X.bc)∧zcc W XX 1 (.slice X.la X.ln X.lc)∧zcc W XX 2 (.slice X.sa X.sn X.sc)))) (by kernel_rfl) (zd (za kX (zc hb vv))) (fun hHeld => ?_);refine kK 0 ?_;refine kK 1 ?_;refine kK 2 ?_;refine kK 4 ?_;refine kK 5 ?_;refine kK 6 ?_;refine kR 3 fun K hK => ?_
       go_simp;clear hHeld;refine (za0 X (i:Int) la _ _ (zY X.brs X.ls X.ln) _ (oX.row.below (zc hb vv)) ((zC (F:=intF) oL).below (zc hb vv)) HLL.out HBN6.out).mono ?_;rintro e w7 ⟨jw7,cw7,rfl,ow7,hbj⟩;have vv:=zc vv hbj;clear hbj;(go_wp2_with fail);refine kO hK (zd (za kX (zc hb vv))) fun hHeld => ?_
       clear hK K;refine kR 7 fun K hK => ?_
       go_simp;clear hHeld;refine (za0 X (i:Int) ua _ _ (upTo X.brs X.ls X.ln) _ (oX.row.below (zc hb vv)) ((zC (F:=intF) oU).below (zc hb vv)) HUL.out HBN6.out).mono ?_;rintro e w8 ⟨jw8,cw8,rfl,ow8,hbj⟩;have vv:=zc vv hbj;have ow7:=zh ow7 hbj;clear hbj;(go_wp2_with fail);refine kO hK (zd (za kX (zc hb vv))) fun hHeld => ?_
       clear hK K;refine kR 8 fun K hK => ?_
       go_simp;clear hHeld;have hj:=HJS.out (i:Int);refine (zeN _ _ _ (joined X.bn X.ls (i:Int) (zY X.brs X.ls X.ln)) _ _ _ (joined X.bn X.ls (i:Int) (upTo X.brs X.ls X.ln)) _ (zdi (by rw [← zbw]; exact ow7) HJI.out.1) (zdi (by rw [← zbw]; exact ow8) HJI.out.2)).mono ?_;rintro e w9 ⟨rfl,n9,e9⟩;rw [decide_eq_true hj];have vv:Below wr.heap.size wr w9:=by rw [e9]; exact zdE vv n9
       clear e9 hj ow7 ow8;(go_wp2_with fail);refine kO hK (zd (za kX (zc hb vv))) fun hHeld => ?_
       clear hK K;refine kK 9 ?_;refine wpAnyH_done (by kernel_rfl) ?_ _;clear hHeld;have HB:=hide (zc hb vv);clear hb vv;go_wp2
       go_roundw
       case rel=>exact ⟨i+1,by omega,by go_num,HCN.out,HB.out⟩
       case measure=>simp [intOf]; omega
    ·have hie:i=X.bn:=by omega
     subst hie;have hlc:=HLC.out;have hwl:=ziH X.brs X.ls X.ln;(go_wp2_with fail);refine (zhz X X.ss HOX.out HAG.out la _ lc (zY X.brs X.ls X.ln) _ (oX.row.below hb) ((zC (F:=intF) oL).below hb) HL0.out HLL.out).mono ?_;rintro e w7 ⟨rfl,hb7⟩;have hb:=zc hb hb7;have HB:=hide (zc bX hb);clear hb7 x0 x1 x2;obtain ⟨x0,x1,x2⟩:=zd (za kX hb);have hw1:wrap64 ((X.bn:Int) - (cntR X.brs X.ls X.bn:Nat))=(zY X.brs X.ls X.ln).length:=by rw [Go.IntWalk.wrap64_in _ (by omega)]; omega
     clear hb;go_wp2;go_ret;exact ⟨zM (beq_iff_eq.2 (by omega)),HB.out⟩

theorem fnAgreedTree_own:ownKnob Tryz.prog.godebug=none:=by kernel_rfl
theorem fnAgreedTree_laid:laidOutB Tryz.prog=true:=by kernel_rfl

open Go.ChangeShapes Go.WideShapes Go.ChangeAt in
open Go.ChangeMaps (open_string shut_string) in
theorem fnAgreedTree_lifted (os:Os) (started:os.Started) (H:Type) (enc:TypeId × Value→H) :
  ReturnsInHanded {} Tryz.checked os 3 .any (Rows.fnAgreedTreeSpec.pre6 enc Tryz.prog Tryz.f3 Rows.fnAgreedTreeRow.domain false) (Rows.fnAgreedTreeSpec.post enc Tryz.prog Tryz.f3 false true false false):=by
 refine returnsInHanded_of_change (C:=Tryz.checked) fnAgreedTree_own started (by kernel_rfl) Tryz.func3
  (ChangeSpec.witness6 (enc:=enc) (C:=Tryz.checked) false ⟨#[],#[.slice none 0 0],[]⟩ 8 (by kernel_rfl) (by kernel_rfl) (by kernel_rfl) (by kernel_rfl)) ?_
 intro W base args ds gs before hval0 hW hcnd _;have hval:∀(j:Nat) t v,Tryz.f3.params[j]? = some t→args[j]? = some v→Value.okWide Tryz.prog W .any base t v:=hval0;have hW':=hW;obtain ⟨p,q,hA0,hV,rfl,hfz,hnd⟩:=hW;have hA:DataW.TrodAll enc Tryz.prog W 0 (fun _=>true) true Tryz.f3.params.toList args.toList ds p:=hA0;rw [Tryz.params3] at hA hval;obtain ⟨v0,vs0,d0,ds0,p0,q0,hargs,rfl,rfl,h0,r0⟩:=trodAll_cons hA;obtain ⟨rfl,rfl,rfl⟩:=trodAll_nil r0;obtain rfl:args=#[v0]:=by cases args; simp_all
 obtain ⟨rfl,rfl⟩:=trodVars_none hV;obtain ⟨a0,len0,cap0,rfl⟩:=okWide_slice Tryz.underlying22 (hval 0 22 v0 rfl rfl);have k0:=h0;have lt0:∀x∈p0,x.block < W.heap.size:=by obtain ⟨m,hm⟩:=k0; exact DataW.trod_lt m _ _ _ hm
 obtain ⟨z0,w0⟩:∃zs,Row W a0 len0 cap0 zs:=by
  obtain ⟨fuel,hf⟩:=h0;rcases open_ints Tryz.underlying22 Tryz.underlying5 (by kernel_rfl) hf with ⟨hcs,_⟩ | ⟨x,l,c,zs,hcs,_,hl,hm,hz,_,hcell,hwz⟩
  ·simp [Value.cells] at hcs
   obtain ⟨rfl,rfl,rfl⟩:=hcs;exact ⟨[],zne W⟩
  ·simp [Value.cells] at hcs
   obtain ⟨rfl,rfl,rfl⟩:=hcs;exact ⟨zs.take len0,zmm hl hm (by simpa using hz) hcell hwz⟩
 clear hA0 hval0;refine (ze7 a0 len0 cap0 z0 W w0).mono fun e W' ⟨he,bel⟩ => ?_
 subst he;exact ⟨_,rfl,_,_,_,[],_,[],hW',trodAll_mk1 (shut_bool Tryz.underlying4 _),(trodAll_cons_mk (Below.trod fnAgreedTree_laid (by kernel_rfl) (of_decide_eq_true (by kernel_rfl)) k0 bel lt0) trodAll_mk0),rfl,bel.frame _,fun h=>by cases h⟩

theorem fnAgreedTree_holds:Rows.FnAgreedTreeSaid :=
 OpenClaim.holds_of_wide 3 Tryz.f3 rfl rfl rfl rfl rfl rfl rfl ⟨rfl,rfl,rfl,rfl,rfl⟩ rfl rfl rfl rfl rfl (by kernel_rfl) Tryz.func3 (by kernel_rfl)
  (of_decide_eq_true (by kernel_rfl)) (by unfold Func.isWrapper; first | (rw [if_pos (by decide +kernel)]; kernel_rfl) | (rw [if_neg (by decide +kernel)]; exact ⟨rfl,rfl⟩))
  (fun os started H enc _=>fnAgreedTree_lifted os started H enc)

#print axioms fnAgreedTree_holds

end Go.Proofs.YtkaefmfopejbaaaGreat
