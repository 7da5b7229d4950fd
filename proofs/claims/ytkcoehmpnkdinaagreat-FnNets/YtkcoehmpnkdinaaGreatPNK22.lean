/-
  Packed: DrawNt4 VtabPut DrawFdb.
-/
import Derived.Test.YtkcoehmpnkdinaaGreatPNK06
import Derived.Test.YtkcoehmpnkdinaaGreatPNK20
import Derived.Test.YtkcoehmpnkdinaaGreatPNVtabRow
import Derived.Deep.CutBlock
namespace Go.Proofs.YtkcoehmpnkdinaaGreat
set_option maxRecDepth 100000
set_option maxHeartbeats 16000000
open Go.RowKit

section
open Go.RowKit

structure zdl (nn pp:Nat) (ls:List LK):Prop where
 len:ls.length≤9
 at':∀x∈ls,x.a≠x.b∧(0≤x.a∧x.a < (nn:Int))∧(0≤x.b∧x.b < (nn:Int))∧(0≤x.p∧x.p < (pp:Int))∧(0≤x.q∧x.q < (pp:Int))
 nd:(endsL ls).Nodup

theorem zdl.push {nn pp:Nat} {ls:List LK} (h:zdl nn pp ls) {a p b q:Int} (hab:¬a=b) (ha:0≤a∧a < (nn:Int)) (hb:0≤b∧b < (nn:Int)) (hp:0≤p∧p < (pp:Int)) (hq:0≤q∧q < (pp:Int)) (h1:usedL ls a p=0) (h2:usedL ls b q=0) (h9:ls.length < 9):zdl nn pp (ls++[⟨a,p,b,q⟩]) where
 len:=by rw [List.length_append]; simp; omega
 at':=fun x hx=>by
  rcases List.mem_append.1 hx with h3 | h3
  ·exact h.at' x h3
  ·simp at h3
   subst h3;exact ⟨hab,ha,hb,hp,hq⟩
 nd:=by
  rw [zek,List.nodup_append];refine ⟨h.nd,by simp [endsL,hab],fun x hx y hy => ?_⟩;unfold usedL at h1 h2;rw [List.count_eq_zero] at h1 h2;have hy:y=(a,p)∨y=(b,q):=by simpa [endsL] using hy
  rintro rfl;rcases hy with rfl | rfl
  ·exact h1 hx
  ·exact h2 hx

structure LkSt (w wr:World) (C:Nat) (a0:Option Addr) (l0 c0:Nat) (z0:List Int) (la:Option Addr) (lc:Nat) (ls:List LK):Prop where
 box:wr.heap[w.heap.size]? = some (.cells #[.slice none 0 0,.slice la ls.length lc,.slice none 0 0] 31)
 own:wr.ownsRow (w.heap.size+1) 44 4 (.slice la ls.length lc) ls.length (linkF.all ls)
 went:Went w wr C a0 l0 c0 z0
 lt:C < w.heap.size

section
variable {w wr w':World} {C:Nat} {a0:Option Addr} {l0 c0:Nat} {z0:List Int} {la:Option Addr} {lc:Nat} {ls:List LK}
theorem LkSt.later (h:LkSt w wr C a0 l0 c0 z0 la lc ls) (hb:Below wr.heap.size wr w'):LkSt w w' C a0 l0 c0 z0 la lc ls:=⟨za h.box hb,zl h.own hb,h.went.made hb,h.lt⟩
theorem LkSt.goes (h:LkSt w wr C a0 l0 c0 z0 la lc ls) (wt:Went wr w' C a0 l0 c0 z0):LkSt w w' C a0 l0 c0 z0 la lc ls :=
 ⟨ze h.box wt.grown (fun j e=>by cases e; exact Nat.ne_of_lt h.lt),zw h.own wt.grown (fun b hb=>by cases hb; exact Nat.lt_succ_of_lt h.lt),h.went.trans wt,h.lt⟩
theorem LkSt.row (h:LkSt w wr C a0 l0 c0 z0 la lc ls):zas wr ⟨none,0,0,[],la,ls.length,lc,ls,none,0,0,[]⟩ :=
 ⟨zc2 _ _,(by intro x hx; cases hx),zD (F:=linkF) h.own,zc2 _ _⟩
theorem LkSt.pushed (h:LkSt w wr C a0 l0 c0 z0 la lc ls) {a7:Option Addr} {c7:Nat} {l7:List LK} {w7:World} (how:w7.ownsRow (w.heap.size+1) 44 4 (.slice a7 l7.length c7) l7.length (linkF.all l7)) (kX:w7.heap[w.heap.size]? = some (.cells #[.slice none 0 0,.slice la ls.length lc,.slice none 0 0] 31)) (hb7:Below (w.heap.size+1) wr w7):LkSt w (w7.setCell ⟨w.heap.size,1,none⟩ (.slice a7 l7.length c7)) C a0 l0 c0 z0 a7 c7 l7 where
 box:=by have:=zu (j:=1) kX (.slice a7 l7.length c7); simpa using this
 own:=zB how (zm (rb:=w.heap.size) 1 _) (zN how kX (by decide))
 went:=by
  have h1:=h.went.madeAt hb7 (Nat.lt_succ_of_lt h.lt) (Nat.le_succ _);exact h1.madeAt (zj (Below.refl w.heap.size w7) (g:=w.heap.size) (Nat.le_refl _) 1 _) h.lt (Nat.le_refl _)
 lt:=h.lt
end

theorem zd9 (C:Nat) (a0:Option Addr) (l0 c0:Nat) (z0:List Int) (nn pp:Nat) (w:World) (hc:Cur w C a0 l0 c0 z0) (hn1:1≤nn) (hn:nn≤100) (hp1:1≤pp) (hp:pp≤100) :
  Calls Tryz.prog 21 #[.pointer (some ⟨C,0,none⟩),.int .i64 nn,.int .i64 pp] w fun e w'=>∃(la:Option Addr) (lc:Nat) (ls:List LK),e=.returned (.slice la ls.length lc)∧zdl nn pp ls∧w'.ownsRow w.heap.size 44 4 (.slice la ls.length lc) ls.length (linkF.all ls)∧Went w w' C a0 l0 c0 z0:=by
 have hlt:=hc.lt;go_enter Tryz.func21,Tryz.ntmps21;go_wp2_with fail
 generalize hw1:w.alloc (Obj.cells #[.slice none 0 0,.slice none 0 0,.slice none 0 0] 31)=w1;have b1:=zb hw1;have k1:=zk hw1;have st1:LkSt w w1 C a0 l0 c0 z0 none 0 []:=⟨k1,World.ownsRow_nil _ _ _ _,Went.start hc b1,hlt⟩;clear hw1 b1 k1
 go_loopw [8,9,10,11,12] (fun i u9 u10 u11 u12 wr=>∃(k:Nat) (la:Option Addr) (lc:Nat) (ls:List LK),i=.int .i64 (k:Int)∧k≤nn+4∧zdl nn pp ls∧LkSt w wr C a0 l0 c0 z0 la lc ls) (fun i _ _ _ _ _=>nn+5 - (intOf i).toNat)
 case atStart=>exact ⟨0,none,0,[],rfl,Nat.zero_le _,⟨by simp,(by intro x hx; cases hx),List.nodup_nil⟩,st1⟩
 case round =>
  clear st1;obtain ⟨k,la,lc,ls,rfl,hk,hLI,st⟩:=hrel;have HLI:=hide hLI;clear hLI;(go_wp2_with fail);refine (zy C a0 l0 c0 z0 4 _ st.went.cur (by omega)).mono ?_;rintro e wz ⟨d,rfl,d0,d1,-,wt⟩;have st:=st.goes wt;clear wt;generalize wz=wc at *;have d1:=d1 (by omega);by_cases hkd:(k:Int) < (nn:Int)+d
  ·(go_wp2_with fail);refine (zy C a0 l0 c0 z0 (nn:Int) _ st.went.cur (by omega)).mono ?_;rintro e wz ⟨ga,rfl,ga0,ga1,-,wt⟩;have st:=st.goes wt;clear wt;generalize wz=wc at *;have ga1:=ga1 (by omega);(go_wp2_with fail);refine (zy C a0 l0 c0 z0 2 _ st.went.cur (by omega)).mono ?_;rintro e wz ⟨gc,rfl,gc0,gc1,-,wt⟩;have st:=st.goes wt;clear wt;generalize wz=wc at *;have gc1:=gc1 (by omega);have hmm:(ga+1+gc).tmod (nn:Int)=(ga+1+gc) % (nn:Int):=Int.tmod_eq_emod_of_nonneg (by omega);have hn0:¬(nn:Int)=0:=by omega
   have gb0:0≤(ga+1+gc) % (nn:Int):=Int.emod_nonneg _ hn0;have gb1:(ga+1+gc) % (nn:Int) < (nn:Int):=Int.emod_lt_of_pos _ (by omega);(go_upto_region 7 with fail);generalize (ga+1+gc) % (nn:Int)=gb at *
   go_cut [40] from 32 to 39 (fun s wx=>∃q:Bool,s=.bool q∧(q=true→(k:Int) < (nn:Int) - 1)∧LkSt w wx C a0 l0 c0 z0 la lc ls)
   case first =>
    by_cases hk1:(k:Int) < (nn:Int) - 1
    ·(go_wp2_with fail);refine (zdK C a0 l0 c0 z0 5 _ st.went.cur (by omega)).mono ?_;rintro e wz ⟨q,rfl,wt⟩;have st:=st.goes wt;clear wt;generalize wz=wc at *;have HST:=hide st;clear st;(go_wp2_with fail)
     go_meet
     exact ⟨!q,rfl,fun _=>hk1,HST.out⟩
    ·have HST:=hide st;clear st;(go_wp2_with fail)
     go_meet
     exact ⟨false,rfl,(fun e=>by cases e),HST.out⟩
   case rest =>
    clear st;obtain ⟨q,rfl,hq,st⟩:=hcut
    go_upto_if 40 with fail
    go_cut [9,10] from 41 to 43 (fun s t wx=>∃fa fb:Int,s=.int .i64 fa∧t=.int .i64 fb∧0≤fa∧fa < (nn:Int)∧0≤fb∧fb < (nn:Int)∧LkSt w wx C a0 l0 c0 z0 la lc ls)
    case first =>
     have HST:=hide st;clear st;cases q
     ·(go_wp2_with fail)
      go_meet
      exact ⟨ga,gb,rfl,rfl,ga0,ga1,gb0,gb1,HST.out⟩
     ·have hk1:=hq rfl;(go_wp2_with fail)
      go_meet
      exact ⟨(k:Int),(k:Int)+1,rfl,rfl,by omega,by omega,by omega,by omega,HST.out⟩
    case rest =>
     clear st hq ga0 ga1 gb0 gb1 gc0 gc1 hmm;obtain ⟨fa,fb,rfl,rfl,fa0,fa1,fb0,fb1,st⟩:=hcut;(go_wp2_with fail);refine (zy C a0 l0 c0 z0 (pp:Int) _ st.went.cur (by omega)).mono ?_;rintro e wz ⟨gp,rfl,gp0,gp1,-,wt⟩;have st:=st.goes wt;clear wt;generalize wz=wc at *;have gp1:=gp1 (by omega);(go_wp2_with fail);refine (zy C a0 l0 c0 z0 (pp:Int) _ st.went.cur (by omega)).mono ?_;rintro e wz ⟨gq,rfl,gq0,gq1,-,wt⟩;have st:=st.goes wt;clear wt;generalize wz=wc at *;have gq1:=gq1 (by omega)
     go_upto_block 2 with fail
     go_cut [11] from 50 to 62 (fun v wx=>∃y:Int,v=.int .i64 y∧0≤y∧y < (pp:Int)∧LkSt w wx C a0 l0 c0 z0 la lc ls)
     case first =>
      (go_wp2_with fail)
      go_loopw [11] (fun v wx=>∃y:Nat,v=.int .i64 (y:Int)∧y < pp∧LkSt w wx C a0 l0 c0 z0 la lc ls) (fun v _=>pp - (intOf v).toNat)
      case atStart=>exact ⟨gp.toNat,by rw [show ((gp.toNat:Nat):Int)=gp by omega],by omega,st⟩
      case round =>
       clear st;obtain ⟨y,rfl,hy,st⟩:=hrel;have x:=zd st.box;obtain ⟨x0,x1,x2⟩:=x;(go_wp2_with fail);refine (zbg ⟨none,0,0,[],la,ls.length,lc,ls,none,0,0,[]⟩ fa (y:Int) _ st.row (by have:=HLI.out.len; dsimp only; omega)).mono ?_;rintro e wz ⟨rfl,hbz⟩;have st:=st.later hbz;clear hbz x0 x1 x2;generalize wz=wc at *;by_cases hu:0 < ((usedL ls fa (y:Int):Nat):Int)
       ·by_cases hy1:(y:Int)+1 < (pp:Int)
        ·have HST:=hide st;clear st;go_wp2
         go_roundw
         case rel=>exact ⟨y+1,by go_num,by omega,HST.out⟩
         case measure=>simp [intOf]; omega
        ·have HST:=hide st;clear st;(go_wp2_with fail)
         go_meet
         exact ⟨(y:Int),rfl,by omega,by omega,HST.out⟩
       ·have HST:=hide st;clear st;(go_wp2_with fail)
        go_meet
        exact ⟨(y:Int),rfl,by omega,by omega,HST.out⟩
     case rest =>
      clear st;obtain ⟨fp,rfl,fp0,fp1,st⟩:=hcut
      go_upto_block 4 with fail
      go_cut [12] from 63 to 75 (fun v wx=>∃y:Int,v=.int .i64 y∧0≤y∧y < (pp:Int)∧LkSt w wx C a0 l0 c0 z0 la lc ls)
      case first =>
       (go_wp2_with fail)
       go_loopw [12] (fun v wx=>∃y:Nat,v=.int .i64 (y:Int)∧y < pp∧LkSt w wx C a0 l0 c0 z0 la lc ls) (fun v _=>pp - (intOf v).toNat)
       case atStart=>exact ⟨gq.toNat,by rw [show ((gq.toNat:Nat):Int)=gq by omega],by omega,st⟩
       case round =>
        clear st;obtain ⟨y,rfl,hy,st⟩:=hrel;have x:=zd st.box;obtain ⟨x0,x1,x2⟩:=x;(go_wp2_with fail);refine (zbg ⟨none,0,0,[],la,ls.length,lc,ls,none,0,0,[]⟩ fb (y:Int) _ st.row (by have:=HLI.out.len; dsimp only; omega)).mono ?_;rintro e wz ⟨rfl,hbz⟩;have st:=st.later hbz;clear hbz x0 x1 x2;generalize wz=wc at *;by_cases hu:0 < ((usedL ls fb (y:Int):Nat):Int)
        ·by_cases hy1:(y:Int)+1 < (pp:Int)
         ·have HST:=hide st;clear st;go_wp2
          go_roundw
          case rel=>exact ⟨y+1,by go_num,by omega,HST.out⟩
          case measure=>simp [intOf]; omega
         ·have HST:=hide st;clear st;(go_wp2_with fail)
          go_meet
          exact ⟨(y:Int),rfl,by omega,by omega,HST.out⟩
        ·have HST:=hide st;clear st;(go_wp2_with fail)
         go_meet
         exact ⟨(y:Int),rfl,by omega,by omega,HST.out⟩
      case rest =>
       clear st;obtain ⟨fq,rfl,fq0,fq1,st⟩:=hcut;(go_upto_region 16 with fail)
       go_cut [98] from 76 to 97 (fun s wx=>∃q:Bool,s=.bool q∧(q=true→¬fa=fb∧usedL ls fa fp=0∧usedL ls fb fq=0∧ls.length < 9)∧LkSt w wx C a0 l0 c0 z0 la lc ls)
       case first =>
        by_cases hab:fa=fb
        ·have hab':(fa != fb)=false:=by simp [hab]
         have HST:=hide st;clear st;(go_wp2_with fail)
         go_meet
         exact ⟨false,rfl,(fun e=>by cases e),HST.out⟩
        ·have hab':(fa != fb)=true:=by simp [hab]
         have x:=zd st.box;obtain ⟨x0,x1,x2⟩:=x;(go_wp2_with fail);refine (zbg ⟨none,0,0,[],la,ls.length,lc,ls,none,0,0,[]⟩ fa fp _ st.row (by have:=HLI.out.len; dsimp only; omega)).mono ?_;rintro e wz ⟨rfl,hbz⟩;have st:=st.later hbz;clear hbz x0 x1 x2;generalize wz=wc at *;by_cases hu1:((usedL ls fa fp:Nat):Int)=0
         ·have x:=zd st.box;obtain ⟨x0,x1,x2⟩:=x;(go_wp2_with fail);refine (zbg ⟨none,0,0,[],la,ls.length,lc,ls,none,0,0,[]⟩ fb fq _ st.row (by have:=HLI.out.len; dsimp only; omega)).mono ?_;rintro e wz ⟨rfl,hbz⟩;have st:=st.later hbz;clear hbz x0 x1 x2;generalize wz=wc at *;by_cases hu2:((usedL ls fb fq:Nat):Int)=0
          ·obtain ⟨x0,x1,x2⟩:=zd st.box;by_cases h9:(ls.length:Int) < 9
           ·have HST:=hide st;clear st;(go_wp2_with fail)
            go_meet
            exact ⟨true,by first | rfl | simp [h9],fun _=>⟨hab,by omega,by omega,by omega⟩,HST.out⟩
           ·have HST:=hide st;clear st;(go_wp2_with fail)
            go_meet
            exact ⟨false,by first | rfl | simp [h9],(fun e=>by cases e),HST.out⟩
          ·have HST:=hide st;clear st;(go_wp2_with fail)
           go_meet
           exact ⟨false,rfl,(fun e=>by cases e),HST.out⟩
         ·have HST:=hide st;clear st;(go_wp2_with fail)
          go_meet
          exact ⟨false,rfl,(fun e=>by cases e),HST.out⟩
       case rest =>
        clear st;obtain ⟨q,rfl,hq,st⟩:=hcut;cases q
        ·have HST:=hide st;clear st hq;go_wp2
         go_roundw
         case rel=>exact ⟨k+1,la,lc,ls,by go_num,by omega,HLI.out,HST.out⟩
         case measure=>simp [intOf]; omega
        ·obtain ⟨hab,hu1,hu2,h9⟩:=hq rfl;have HLI2:Hid (zdl nn pp (ls++[⟨fa,fp,fb,fq⟩])):=hide (HLI.out.push hab ⟨fa0,fa1⟩ ⟨fb0,fb1⟩ ⟨fp0,fp1⟩ ⟨fq0,fq1⟩ hu1 hu2 h9);have HL1:Hid ((ls++[(⟨fa,fp,fb,fq⟩:LK)]).length=ls.length+1):=hide (by rw [List.length_append]; rfl);generalize hwa:wc.alloc (Obj.cells #[.int .i64 fa,.int .i64 fp,.int .i64 fb,.int .i64 fq] 44)=wa;have ba:=zb hwa;have ka:=zk hwa;have gone:GRow linkF wa (some ⟨wc.heap.size,0,none⟩) 1 1 [⟨fa,fp,fb,fq⟩]:=zD (F:=linkF) (zdq linkF (x:=⟨fa,fp,fb,fq⟩) (base:=0) ka rfl (Nat.zero_le _));obtain ⟨v0,v1,v2⟩:=zd st.box;have st:=st.later ba;have hbA:w.heap.size+1≤wa.heap.size:=Nat.succ_le_of_lt (Array.getElem?_eq_some_iff.1 st.box).1;have HSA:=hide st;have how0:=st.own;obtain ⟨x0,x1,x2⟩:=zd st.box;clear st;go_wp2_with (at_builtin; refine zE (F:=linkF) _ rfl _ _ 25 44 rfl (w.heap.size+1) Tryz.underlying25 zc3 rfl (by decide) _ ls.length ls rfl how0 (some ⟨wc.heap.size,0,none⟩) 1 1 [⟨fa,fp,fb,fq⟩] rfl gone (by omega) hbA ?_)
         intro a7 c7 w7 how hr hgr hb7;have kX:=ze HSA.out.box hgr (fun b e=>zN how0 HSA.out.box (by decide) b e);obtain ⟨y0,y1,y2⟩:=zd kX;have f1:=zi kX 1;rw [← HL1.out] at how;have HS2:=hide (HSA.out.pushed how kX hb7);have HOWL:=hide HL1.out;clear how hr hgr hb7 gone ka hwa ba how0 x0 x1 x2 v0 v1 v2;(go_wp2_with fail);rw [← HL1.out];generalize hws:w7.setCell ⟨w.heap.size,1,none⟩ (.slice a7 (ls++[(⟨fa,fp,fb,fq⟩:LK)]).length c7)=ws;have HS3:=HS2;rw [hws] at HS3;clear HS2 hws kX y0 y1 y2 f1;go_wp2
         go_roundw
         case rel=>exact ⟨k+1,a7,c7,_,by go_num,by omega,HLI2.out,HS3.out⟩
         case measure=>simp [intOf]; omega
  ·have HST:=hide st;obtain ⟨x0,x1,x2⟩:=zd st.box;clear st;go_wp2;go_ret;exact ⟨la,lc,ls,rfl,HLI.out,zL HST.out.own (Nat.le_succ _),HST.out.went⟩

end

def zdL (v:VT) (r:VR):VT × Bool:=if zU v v.own.length then orV ⟨zT v.rows r false,v.own⟩ v else (v,false)

theorem zcT (a:Option Addr) (n c:Nat) (o:Option Addr) (p q:Nat) (v:VT) (r:VR) (w:World) (h:VTab w a n c o p q v) (hn:n≤16777216) (hp:p≤16777216) :
  Calls Tryz.prog 146 #[.agg #[.slice a n c,.slice o p q],.agg #[.int .i64 r.i,.int .i64 r.m,.int .i64 r.b]] w fun e w'=>∃a' n' c' o' p' q',e=.returned (.tuple #[.agg #[.slice a' n' c',.slice o' p' q'],.bool (zdL v r).2])∧VOwn w' w.heap.size a' n' c' o' p' q' (zdL v r).1∧Below w.heap.size w w':=by
 generalize hw1:w.alloc (Obj.cells #[Value.slice a n c,Value.slice o p q] 59)=w1;generalize hw2:w1.alloc (Obj.cells #[Value.int .i64 r.i,Value.int .i64 r.m,Value.int .i64 r.b] 98)=w2;generalize hw3:w2.alloc (Obj.cells #[Value.slice none 0 0,Value.slice none 0 0] 59)=w3;have b01:=zb hw1;have b12:=zb hw2;have b23:=zb hw3;have b13:=zc b12 b23;have b03:=zc b01 b13;have k2:=zk hw3;have z3:Hid (w2.heap.size < w3.heap.size):=hide (by rw [← hw3]; simp);obtain ⟨e0,e0x⟩:=zW hw1 b12;have kr:=zk hw2;obtain ⟨⟨e1,e2,e3⟩,-⟩:=zaZ kr;have hb1:=zW hw1 b13;have h3:=h.below b03;have hl:=h.own.size;unfold zdL;rw [hl];cases hok:zU v p
 ·rw [if_neg Bool.false_ne_true];go_enter Tryz.func146,Tryz.ntmps146;go_wp2_with (refine (zae a n c o p q v (p:Int) _ h3).mono ?_; rintro e w4 ⟨rfl,hb4⟩; rw [hok]; have hc1:=zW hw1 (zc b13 hb4))
  go_wp2_with (refine (zat a n c o p q v _ (h3.below hb4) hn hp).mono ?_; rintro e w5 ⟨a',c',o',q',rfl,hO,hb5⟩; obtain ⟨⟨g0,g1⟩,f0,f1⟩:=zG (za k2 (zc hb4 hb5)))
  have hbW:Below w.heap.size w ((w5.setCell ⟨w2.heap.size,0,none⟩ (.slice a' n c')).setCell ⟨w2.heap.size,1,none⟩ (.slice o' p q')):=zj (zj (zc b03 (zc hb4 hb5)) (zc b01 b12).size _ _) (zc b01 b12).size _ _;have hO':=(hO.set2 (g:=w2.heap.size) (by have:=hb4.size; have:=z3.out; omega) (.slice a' n c') (.slice o' p q')).lt (base':=w.heap.size) (by have:=hb4.size; have:=b03.size; omega);have HO:=hide hO';clear hO hO';exact bodyPost_ret (v:=.tuple #[.agg #[.slice a' n c',.slice o' p q'],.bool false]) (by simp [results,Tryz.results146,go_sem, *]) rfl ⟨_,_,_,_,_,_,rfl,HO.out,hbW⟩
 ·rw [if_pos rfl];go_enter Tryz.func146,Tryz.ntmps146;go_wp2_with (refine (zae a n c o p q v (p:Int) _ h3).mono ?_; rintro e w4 ⟨rfl,hb4⟩; rw [hok])
  have vv:Below w3.heap.size w3 w4.drew:=zr hb4;have vb:Below w2.heap.size w2 w4.drew:=zc b23 vv;refine wp_region_held_drew (S:=(fun W=>zcc W w.heap.size 0 (.slice a n c)∧zcc W w.heap.size 1 (.slice o p q)∧zcc W w1.heap.size 0 (.int .i64 r.i)∧zcc W w1.heap.size 1 (.int .i64 r.m)∧zcc W w1.heap.size 2 (.int .i64 r.b))) (by kernel_rfl) (⟨zf e0 vb,zf e0x vb,zf e1 vb,zf e2 vb,zf e3 vb⟩) (fun hHeld => ?_);refine kK 0 ?_;refine kK 1 ?_;refine kK 3 ?_;refine kR 2 fun K hK => ?_
  go_simp;refine (zec a n c o p q v r _ (h3.below vv) hn hp).mono ?_;rintro e w5 ⟨a5,n5,c5,o5,q5,rfl,hO5,hb5⟩;have hO5:=hO5.lt (base':=w3.heap.size) vv.size;have vv:=zc vv hb5;have vb:=zc vb hb5;(go_wp2_with fail);refine kO hK (⟨zf e0 vb,zf e0x vb,zf e1 vb,zf e2 vb,zf e3 vb⟩) fun hHeld => ?_
  clear hK K;refine kR 4 fun K hK => ?_
  go_simp;refine (zdt w3.heap.size a5 n5 c5 o5 p q5 _ a n c o p q v _ hO5 (h3.below vv) hn hp vv.size).mono ?_;rintro e w6 ⟨a6,n6,c6,o6,p6,q6,rfl,hO6,hb6⟩;have vv:=zc vv hb6;have vb:=zc vb hb6;clear hO5;(go_wp2_with fail);refine kO hK (⟨zf e0 vb,zf e0x vb,zf e1 vb,zf e2 vb,zf e3 vb⟩) fun hHeld => ?_
  clear hK K;refine kK 5 ?_;refine kK 6 ?_;refine kR 7 fun K hK => ?_
  obtain ⟨⟨g0,g1⟩,f0,f1⟩:=zG (za k2 vv);go_simp;have vb:=zj (zj vb (Nat.le_refl _) 0 (.slice a6 n6 c6)) (Nat.le_refl _) 1 (.slice o6 p6 q6);have hO6:=hO6.set2 (g:=w2.heap.size) z3.out (.slice a6 n6 c6) (.slice o6 p6 q6);refine kO hK (⟨zf e0 vb,zf e0x vb,zf e1 vb,zf e2 vb,zf e3 vb⟩) fun hHeld => ?_
  clear hK K;refine kK 8 ?_;refine wpAnyH_done (by kernel_rfl) ?_ _;have HO:=hide (hO6.lt (base':=w.heap.size) b03.size);have HB:=hide (zc (zc b01 b12) vb);clear hO6;go_wp2;exact bodyPost_ret (v:=.tuple #[.agg #[.slice a6 n6 c6,.slice o6 p6 q6],.bool (orV ⟨zT v.rows r false,v.own⟩ v).2]) (by simp [results,Tryz.results146,go_sem, *]) rfl ⟨_,_,_,_,_,_,rfl,HO.out,HB.out⟩

theorem zf0 (C:Nat) (a0:Option Addr) (l0 c0:Nat) (z0:List Int) (w:World) (hc:Cur w C a0 l0 c0 z0) :
  Calls Tryz.prog 117 #[.pointer (some ⟨C,0,none⟩)] w fun e w'=>∃y:Int,e=.returned (.int .i64 y)∧11≤y∧y≤14∧Went w w' C a0 l0 c0 z0:=by
 go_enter Tryz.func117,Tryz.ntmps117;go_wp2_with fail
 refine (zan C a0 l0 c0 z0 [11,12,13,14] _ _ w hc rfl rfl (by simp) (by simp)).mono ?_;rintro e w2 ⟨y,hy,rfl,went2⟩;have hy:11≤y∧y≤14:=by simp at hy; omega
 go_wp2;go_ret;exact ⟨_,rfl,hy.1,hy.2,went2⟩

def zlx (w w':World) (C:Nat) (a0:Option Addr) (l0 c0:Nat) (z0:List Int) (e:Ending):Prop :=
 ∃(ao:Option Addr) (n cap:Nat) (l:List FE),e=.returned (.slice ao n cap)∧l.length=n∧fdbOk l=true∧w'.ownsRow w.heap.size 95 5 (.slice ao n cap) n (fentF.all l)∧Went w w' C a0 l0 c0 z0

theorem zgO {l:List FE} (h:fdbOk l=true):l.length≤12:=((zaP l).1 h).2
theorem zjN {l:List FE} (h:fdbOk l=true):∀x∈l,x.Rng:=fun x hx=>zhi ((((zaP l).1 h).1).1 x hx)

theorem ziN (C:Nat) (a0:Option Addr) (l0 c0:Nat) (z0:List Int) (w:World) (hc:Cur w C a0 l0 c0 z0) :
  Calls Tryz.prog 119 #[.pointer (some ⟨C,0,none⟩)] w fun e w'=>zlx w w' C a0 l0 c0 z0 e:=by
 have hlt:=hc.lt;have wn0:=Went.start hc (zg w (.cells #[] 95));have o0:=zaE fentF w _ 95 _ (zt w (.cells #[] 95)) (Nat.le_refl _);go_enter Tryz.func119,Tryz.ntmps119;go_wp2_with fail
 refine (zy C a0 l0 c0 z0 10 _ wn0.cur (by omega)).mono ?_;rintro e w1 ⟨x,rfl,hx0,hx1,-,wtx⟩;have hx1:=hx1 (by omega);obtain ⟨mx,rfl⟩:∃m:Nat,x=m:=⟨x.toNat,by omega⟩;have wn1:=wn0.trans wtx;have o1:=zw o0 wtx.grown (fun b hb=>by cases hb; exact hlt);clear wtx wn0 o0;go_wp2
 go_loopw [3,4] (fun o i wr=>∃(k:Nat) (ao:Option Addr) (n cap:Nat) (l:List FE),k≤10∧i=.int .i64 k∧o=.slice ao n cap∧l.length=n∧fdbOk l=true∧wr.ownsRow w.heap.size 95 5 (.slice ao n cap) n (fentF.all l)∧Went w wr C a0 l0 c0 z0) (fun _ i _=>(intOf i).toNat)
 case atStart=>exact ⟨mx,_,_,_,[],by omega,rfl,rfl,rfl,rfl,o1,wn1⟩
 case round =>
  obtain ⟨k,ao,n,cap,l,hk,rfl,rfl,hl,hok,o2,wn2⟩:=hrel;clear wn1 o1;have h12:=zgO hok;have HOK:=hide hok;clear hok;by_cases hk0:0 < k
  ·(go_wp2_with fail);refine (zy C a0 l0 c0 z0 6 _ wn2.cur (by omega)).mono ?_;rintro e w3 ⟨x,rfl,hx0,-,-,wtx⟩;have wn3:=wn2.trans wtx;have o3:=zw o2 wtx.grown (fun b hb=>by cases hb; exact hlt);clear wtx wn2 o2;by_cases e0:x=0
   ·subst e0;(go_wp2_with fail);refine (zy C a0 l0 c0 z0 3 _ wn3.cur (by omega)).mono ?_;rintro e w4 ⟨u,rfl,hu0,hu1,-,wtu⟩;have hu1:=hu1 (by omega);have wn4:=wn3.trans wtu;have o4:=zw o3 wtu.grown (fun b hb=>by cases hb; exact hlt);clear wtu wn3 o3;have hwu:IntKind.i64.wrap (1+u)=1+u:=zcA _ (by omega);(go_wp2_with fail);refine (zf0 C a0 l0 c0 z0 _ wn4.cur).mono ?_;rintro e w5 ⟨v,rfl,hv0,hv1,wtv⟩;have wn5:=wn4.trans wtv;have o5:=zw o4 wtv.grown (fun b hb=>by cases hb; exact hlt);clear wtv wn4 o4;(go_wp2_with fail);refine (zy C a0 l0 c0 z0 4 _ wn5.cur (by omega)).mono ?_;rintro e w6 ⟨q,rfl,hq0,hq1,-,wtq⟩;have hq1:=hq1 (by omega);have wnz:=wn5.trans wtq;have oz:=zw o5 wtq.grown (fun b hb=>by cases hb; exact hlt);clear wtq wn5 o5;have r9:=zD (F:=fentF) oz;(go_wp2_with fail);refine (ze1 _ _ _ l (1+u) v q _ r9 (by omega)).mono ?_;rintro e w9 ⟨ao9,cap9,rfl,ho9,-,hb9⟩;have o9:=zL ho9 (base':=w.heap.size) wnz.grown.size;have HO:=hide o9;have HW:=hide (wnz.made hb9);have HF:=hide (zk9 HOK.out (1+u) v q);clear ho9 hb9 o9 r9 oz wnz;go_wp2
    go_roundw
    case rel=>exact ⟨k - 1,ao9,_,cap9,setF l (1+u) v q,by omega,by go_num,rfl,rfl,HF.out,HO.out,HW.out⟩
    case measure=>simp [intOf]; omega
   ·have t0:(x == 0)=false:=by simp [e0]
    by_cases e1:x=1
    ·subst e1;have wnz:=wn3;have oz:=o3;clear wn3 o3;have r9:=zD (F:=fentF) oz;(go_wp2_with fail);refine (zeX _ _ _ l _ r9 (by omega) (zjN HOK.out)).mono ?_;rintro e w9 ⟨ao9,cap9,rfl,ho9,-,hb9⟩;have o9:=zL ho9 (base':=w.heap.size) wnz.grown.size;have HO:=hide o9;have HW:=hide (wnz.made hb9);have HF:=hide (zkY HOK.out);clear ho9 hb9 o9 r9 oz wnz;go_wp2
     go_roundw
     case rel=>exact ⟨k - 1,ao9,_,cap9,ageF l,by omega,by go_num,rfl,rfl,HF.out,HO.out,HW.out⟩
     case measure=>simp [intOf]; omega
    ·have t1:(x == 1)=false:=by simp [e1]
     (go_wp2_with fail);refine (zy C a0 l0 c0 z0 3 _ wn3.cur (by omega)).mono ?_;rintro e w4 ⟨u,rfl,hu0,hu1,-,wtu⟩;have hu1:=hu1 (by omega);have wn4:=wn3.trans wtu;have o4:=zw o3 wtu.grown (fun b hb=>by cases hb; exact hlt);clear wtu wn3 o3;have hwu:IntKind.i64.wrap (1+u)=1+u:=zcA _ (by omega);(go_wp2_with fail);refine (zf0 C a0 l0 c0 z0 _ wn4.cur).mono ?_;rintro e w5 ⟨v,rfl,hv0,hv1,wtv⟩;have wn5:=wn4.trans wtv;have o5:=zw o4 wtv.grown (fun b hb=>by cases hb; exact hlt);clear wtv wn4 o4;(go_wp2_with fail);refine (zy C a0 l0 c0 z0 3 _ wn5.cur (by omega)).mono ?_;rintro e w6 ⟨c,rfl,hc0,hc1,-,wtc⟩;have hc1:=hc1 (by omega);have wn6:=wn5.trans wtc;have o6:=zw o5 wtc.grown (fun b hb=>by cases hb; exact hlt);clear wtc wn5 o5;have hwv:IntKind.i64.wrap (v+c)=v+c:=zcA _ (by omega);(go_wp2_with fail);refine (zy C a0 l0 c0 z0 4 _ wn6.cur (by omega)).mono ?_;rintro e w7 ⟨q,rfl,hq0,hq1,-,wtq⟩;have hq1:=hq1 (by omega);have wnz:=wn6.trans wtq;have oz:=zw o6 wtq.grown (fun b hb=>by cases hb; exact hlt);clear wtq wn6 o6;have r9:=zD (F:=fentF) oz;(go_wp2_with fail);refine (zdO _ _ _ l (1+u) (v+c) q _ r9 (by omega)).mono ?_;rintro e w9 ⟨ao9,cap9,rfl,ho9,-,hb9⟩;have o9:=zL ho9 (base':=w.heap.size) wnz.grown.size;have HO:=hide o9;have HW:=hide (wnz.made hb9);have HF:=hide (zh3 HOK.out (1+u) (v+c) q);clear ho9 hb9 o9 r9 oz wnz;go_wp2
     go_roundw
     case rel=>exact ⟨k - 1,ao9,_,cap9,zbu l (1+u) (v+c) q,by omega,by go_num,rfl,rfl,HF.out,HO.out,HW.out⟩
     case measure=>simp [intOf]; omega
  ·have hk1:k=0:=by omega
   subst hk1;go_wp2;go_ret;exact ⟨ao,n,cap,l,rfl,hl,HOK.out,o2,wn2⟩

def zlw (w w':World) (C:Nat) (a0:Option Addr) (l0 c0:Nat) (z0:List Int) (e:Ending):Prop :=
 ∃(ao:Option Addr) (n cap:Nat) (l:List FE),e=.returned (.slice ao n cap)∧l.length=n∧n≤100∧(∀x∈l,x.Rng)∧w'.ownsRow w.heap.size 95 5 (.slice ao n cap) n (fentF.all l)∧Went w w' C a0 l0 c0 z0

theorem zii {l:List FE} {e:FE} (h:∀x∈l,x.Rng) (he:e.Rng):∀x∈l++[e],x.Rng:=by
 intro x hx;rcases List.mem_append.1 hx with hx | hx
 ·exact h x hx
 ·simp at hx
  subst hx;exact he

theorem zjy (C:Nat) (a0:Option Addr) (l0 c0:Nat) (z0:List Int) (w:World) (hc:Cur w C a0 l0 c0 z0) :
  Calls Tryz.prog 81 #[.pointer (some ⟨C,0,none⟩)] w fun e w'=>zlw w w' C a0 l0 c0 z0 e:=by
 have hlt:=hc.lt;go_enter Tryz.func81,Tryz.ntmps81;go_wp2_with fail
 refine (ziN C a0 l0 c0 z0 _ hc).mono ?_;rintro e w1 ⟨ao,n,cap,l,rfl,hl,hok,o1,wn1⟩;have h12:=zgO hok;have HR:=hide (zjN hok);clear hok;go_wp2_with fail
 refine (zy C a0 l0 c0 z0 12 _ wn1.cur (by omega)).mono ?_;rintro e w2 ⟨x,rfl,hx0,-,-,wtx⟩;have wn2:=wn1.trans wtx;have o2:=zw o1 wtx.grown (fun b hb=>by cases hb; exact hlt);clear wtx wn1 o1;by_cases e0:x=0
 ·subst e0;(go_wp2_with fail);refine (zan C a0 l0 c0 z0 [0,1,99,100] _ _ w2 wn2.cur rfl rfl (by simp) (by simp)).mono ?_;rintro e w3 ⟨pt,hpt,rfl,wtpt⟩;have hpt : -1≤pt∧pt≤10000:=by simp at hpt; omega
  have wn3:=wn2.trans wtpt;have o3:=zw o2 wtpt.grown (fun b hb=>by cases hb; exact hlt);clear wtpt wn2 o2;(go_wp2_with fail);refine (zan C a0 l0 c0 z0 [0,1,9999] _ _ w3 wn3.cur rfl rfl (by simp) (by simp)).mono ?_;rintro e w4 ⟨pm,hpm,rfl,wtpm⟩;have hpm : -1≤pm∧pm≤10000:=by simp at hpm; omega
  have wn4:=wn3.trans wtpm;have o4:=zw o3 wtpm.grown (fun b hb=>by cases hb; exact hlt);clear wtpm wn3 o3;(go_wp2_with fail);refine (zan C a0 l0 c0 z0 [-1,7,8] _ _ w4 wn4.cur rfl rfl (by simp) (by simp)).mono ?_;rintro e w5 ⟨pp,hpp,rfl,wtpp⟩;have hpp : -1≤pp∧pp≤10000:=by simp at hpp; omega
  have wn5:=wn4.trans wtpp;have o5:=zw o4 wtpp.grown (fun b hb=>by cases hb; exact hlt);clear wtpp wn4 o4;(go_wp2_with fail);refine (zan C a0 l0 c0 z0 [-1,4,5] _ _ w5 wn5.cur rfl rfl (by simp) (by simp)).mono ?_;rintro e w6 ⟨pa,hpa,rfl,wtpa⟩;have hpa : -1≤pa∧pa≤10000:=by simp at hpa; omega
  have wn6:=wn5.trans wtpa;have o6:=zw o5 wtpa.grown (fun b hb=>by cases hb; exact hlt);clear wtpa wn5 o5;have b7:=zg w6 (.cells #[.int .i64 pt,.int .i64 pm,.int .i64 pp,.int .i64 pa,.bool false] 95);have o7:=zl o6 b7;have wn7:=wn6.made b7;have HWN:=hide wn7;have hbase9:w.heap.size≤(w6.alloc (.cells #[.int .i64 pt,.int .i64 pm,.int .i64 pp,.int .i64 pa,.bool false] 95)).heap.size:=wn7.grown.size;have HR2:=hide (zii HR.out (e:=⟨pt,pm,pp,pa,false⟩) ⟨by simp only; omega,by simp only; omega,by simp only; omega,by simp only; omega⟩);clear wn6 o6 b7 wn7;go_wp2_with (at_builtin; refine zah _ rfl _ _ rfl w.heap.size _ n l rfl o7 _ 1 1 [⟨pt,pm,pp,pa,false⟩] rfl (zax fentF _ ⟨pt,pm,pp,pa,false⟩ _ _ rfl) (by omega) hbase9 ?_)
  intro ao9 cap9 w9 how9 hr9 hgr9 hb9;have HO:=hide how9;have HW:=hide (HWN.out.madeAt hb9 hlt (Nat.le_refl _));have hl9:(l++[(⟨pt,pm,pp,pa,false⟩:FE)]).length=n+1:=by simp [hl]
  have HL:=hide hl9;clear how9 hr9 hgr9 hb9 o7 hl9;go_wp2;go_ret;exact ⟨ao9,n+1,cap9,_,rfl,HL.out,by omega,HR2.out,HO.out,HW.out⟩
 have t0:(x == 0)=false:=by simp [e0]
 by_cases e1:x=1
 ·subst e1;go_wp2
  go_loopw [3,4] (fun o i wr=>∃(k:Nat) (ao:Option Addr) (n cap:Nat) (l:List FE),k≤13∧i=.int .i64 k∧o=.slice ao n cap∧l.length=n∧n≤12+k∧(∀x∈l,x.Rng)∧wr.ownsRow w.heap.size 95 5 (.slice ao n cap) n (fentF.all l)∧Went w wr C a0 l0 c0 z0) (fun _ i _=>14 - (intOf i).toNat)
  case atStart=>exact ⟨0,ao,n,cap,l,by omega,rfl,rfl,hl,by omega,HR.out,o2,wn2⟩
  case round =>
   clear o2 wn2 hl h12 HR;obtain ⟨k,ao,n,cap,l,hk,rfl,rfl,hl,hn,hR,o3,wn3⟩:=hrel;have HR:=hide hR;clear hR;(go_wp2_with fail);refine (zy C a0 l0 c0 z0 3 _ wn3.cur (by omega)).mono ?_;rintro e w4 ⟨c,rfl,hc0,hc1,-,wtc⟩;have hc1:=hc1 (by omega);have wn4:=wn3.trans wtc;have o4:=zw o3 wtc.grown (fun b hb=>by cases hb; exact hlt);have hw1:IntKind.i64.wrap (11+c)=11+c:=zcA _ (by omega);clear wtc wn3 o3;by_cases hkc:(k:Int) < 11+c
   ·have hw2:IntKind.i64.wrap (100+(k:Int))=100+(k:Int):=zcA _ (by omega);have b5:=zg w4 (.cells #[.int .i64 50,.int .i64 (100+(k:Int)),.int .i64 1,.int .i64 0,.bool false] 95);have o5:=zl o4 b5;have wn5:=wn4.made b5;have HWN:=hide wn5;have hbase9:w.heap.size≤(w4.alloc (.cells #[.int .i64 50,.int .i64 (100+(k:Int)),.int .i64 1,.int .i64 0,.bool false] 95)).heap.size:=wn5.grown.size;have HR2:=hide (zii HR.out (e:=⟨50,100+(k:Int),1,0,false⟩) ⟨by simp only; omega,by simp only; omega,by simp only; omega,by simp only; omega⟩);clear wn4 o4 b5 wn5;go_wp2_with (at_builtin; refine zah _ rfl _ _ rfl w.heap.size _ n l rfl o5 _ 1 1 [⟨50,100+(k:Int),1,0,false⟩] rfl (zax fentF _ ⟨50,100+(k:Int),1,0,false⟩ _ _ rfl) (by omega) hbase9 ?_)
    intro ao9 cap9 w9 how9 hr9 hgr9 hb9;have HO:=hide how9;have HW:=hide (HWN.out.madeAt hb9 hlt (Nat.le_refl _));have hl9:(l++[(⟨50,100+(k:Int),1,0,false⟩:FE)]).length=n+1:=by simp [hl]
    have HL:=hide hl9;clear how9 hr9 hgr9 hb9 o5 hl9;go_wp2
    go_roundw
    case rel=>exact ⟨k+1,ao9,n+1,cap9,_,by omega,by go_num,rfl,HL.out,by omega,HR2.out,HO.out,HW.out⟩
    case measure=>simp [intOf]; omega
   ·go_wp2;go_ret;exact ⟨ao,n,cap,l,rfl,hl,by omega,HR.out,o4,wn4⟩
 have t1:(x == 1)=false:=by simp [e1]
 go_wp2;go_ret;exact ⟨ao,n,cap,l,rfl,hl,by omega,HR.out,o2,wn2⟩

end Go.Proofs.YtkcoehmpnkdinaaGreat
