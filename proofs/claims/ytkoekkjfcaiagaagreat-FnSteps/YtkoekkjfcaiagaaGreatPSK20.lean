/-
  Packed: NetNewM DrawNt4 SayOn.
-/
import Derived.Test.YtkoekkjfcaiagaaGreatPSKW
import Derived.Test.YtkoekkjfcaiagaaGreatPSK01
import Derived.Test.YtkoekkjfcaiagaaGreatPSK02
import Derived.Test.YtkoekkjfcaiagaaGreatPSK04
import Derived.Test.YtkoekkjfcaiagaaGreatPSK06
import Derived.Test.YtkoekkjfcaiagaaGreatPSK10
import Derived.Test.YtkoekkjfcaiagaaGreatPSK15
import Derived.Test.YtkoekkjfcaiagaaGreatPSK16
import Derived.Test.YtkoekkjfcaiagaaGreatPSK17
import Derived.Test.YtkoekkjfcaiagaaGreatPSK19
import Derived.Deep.CutBlock
import Derived.Deep.RegionHeld3
namespace Go.Proofs.YtkoekkjfcaiagaaGreat
set_option maxRecDepth 100000
set_option maxHeartbeats 16000000
open Go.RowKit

def zaS (B:BR):Nat→BR
 | 0=>B
 | p+1=>linkB (zaS B p) (p:Int) true
def raised (B:BR):BR:=zaS B B.ports.length
def upPt:PT:=⟨true,1,false,⟨0,0,0,0,0⟩⟩

theorem ziy:∀m∈([1,2,3,4,5,6]:List Nat),(List.replicate m newPt).all ptOk=true∧in3 ((List.replicate m newPt).length:Int) 1 6=true∧fdbOk []=true∧zaw (zcC m) ((List.replicate m newPt).length:Int)=true:=by decide

theorem zft {id:Int} {m:Nat} (hid:1≤id∧id≤99) (hm:1≤m∧m≤6):zx (zac id m)=true:=by
 obtain ⟨h1,h2,h3,h4⟩:=ziy m (by
  have:m=1∨m=2∨m=3∨m=4∨m=5∨m=6:=by omega
  simpa using this)
 unfold zx zac;simp only [h1,h2,h3,h4,Bool.true_and];have h5:in3 id 1 99=true:=by unfold in3; simp; omega
 rw [h5]
 rfl

theorem ziM (p m:Nat) (hp:p < m):(List.replicate p upPt++List.replicate (m - p) newPt).set p upPt=List.replicate (p+1) upPt++List.replicate (m - (p+1)) newPt:=by
 rw [List.set_append_right _ _ (by simp),List.length_replicate,Nat.sub_self];obtain ⟨k,hk⟩:∃k,m - p=k+1:=⟨m - p - 1,by omega⟩;rw [hk,List.replicate_succ,List.set_cons_zero,show m - (p+1)=k by omega,List.replicate_succ' (n:=p),List.append_assoc]
 rfl

theorem zhu {id:Int} {m:Nat} (hid:1≤id∧id≤99) (hm:1≤m∧m≤6):∀(p:Nat),p≤m→zx (zaS (zac id m) p)=true∧(zaS (zac id m) p).id=id∧(zaS (zac id m) p).ports=List.replicate p upPt++List.replicate (m - p) newPt
 | 0,_=>⟨zft hid hm,rfl,by simp [zaS,zac]⟩
 | p+1,hp=>by
  obtain ⟨h1,h2,h3⟩:=zhu hid hm p (by omega);have hl:(zaS (zac id m) p).ports.length=m:=by rw [h3]; simp; omega
  have ht:zaW (zaS (zac id m) p) (p:Int)=true:=by unfold zaW; rw [h1,hl]; simp; omega
  have hx:(zaS (zac id m) p).ports[(p:Int).toNat]?=some newPt:=by
   rw [Int.toNat_natCast,h3,List.getElem?_append_right (by simp),List.length_replicate,Nat.sub_self];obtain ⟨k,hk⟩:∃k,m - p=k+1:=⟨m - p - 1,by omega⟩;rw [hk]
   rfl
  have e:zaS (zac id m) (p+1)=turned { zaS (zac id m) p with ports:=(zaS (zac id m) p).ports.set p upPt }:=by
   show linkB (zaS (zac id m) p) (p:Int) true=_
   unfold linkB;rw [ht,hx,Int.toNat_natCast]
   rfl
  refine ⟨zhi h1 _ _, ?_, ?_⟩
  ·rw [e]; exact h2
  ·rw [e]
   show (zaS (zac id m) p).ports.set p upPt=_
   rw [h3];exact ziM p m (by omega)

theorem zaM (id ports:Int):(zx (raised (zo id ports))=zx (zo id ports))∧(raised (zo id ports)).id=(zo id ports).id∧(raised (zo id ports)).ports.length=(zo id ports).ports.length∧(∀x∈(zo id ports).ports,x=newPt)∧(∀x∈(raised (zo id ports)).ports,x=upPt)∧(zx (zo id ports)=true→ports=((zo id ports).ports.length:Int)):=by
 unfold zo
 split
 ·next h =>
  simp only [Bool.and_eq_true,decide_eq_true_eq] at h;obtain ⟨m,rfl⟩:∃m:Nat,ports=(m:Int):=⟨ports.toNat,by omega⟩;rw [Int.toNat_natCast];have hl:(zac id m).ports.length=m:=by simp [zac]
  obtain ⟨h1,h2,h3⟩:=zhu h.1 (m:=m) (by omega) m (Nat.le_refl _);unfold raised;rw [hl];refine ⟨by rw [h1,zft h.1 (by omega)],h2,by rw [h3]; simp, ?_, ?_,fun _=>rfl⟩
  ·intro x hx; exact List.eq_of_mem_replicate hx
  ·intro x hx; rw [h3] at hx; simp at hx; exact hx.2
 ·refine ⟨rfl,rfl,rfl,(by intro x hx; cases hx),(by intro x hx; cases hx),fun h => ?_⟩
  have:zx zgo=false:=by decide
  rw [this] at h;cases h

theorem zct (id ports:Int):(zo id ports).f.length≤6∧(zo id ports).ports.length≤6∧(zo id ports).v.rows.length≤6∧(zo id ports).v.own.length≤6:=by
 unfold zo
 split
 ·next h =>
  simp only [Bool.and_eq_true,decide_eq_true_eq] at h;obtain ⟨m,rfl⟩:∃m:Nat,ports=(m:Int):=⟨ports.toNat,by omega⟩;rw [Int.toNat_natCast];unfold zac zcC;refine ⟨by simp,by simp; omega, ?_, ?_⟩
  ·split <;> simp
  ·split <;> simp <;> omega
 ·exact ⟨by decide,by decide,by decide,by decide⟩

def newBs (ids:List Int) (ports:Int):List BR:=ids.map fun i=>zo i ports
def upBs (ids:List Int) (ports:Int):List BR:=ids.map fun i=>raised (zo i ports)

theorem zcK {ids:List Int} {ports:Int} {i:Nat} {x:BR} (h:(newBs ids ports)[i]?=some x):∃id,ids[i]?=some id∧x=zo id ports:=by
 unfold newBs at h;rw [List.getElem?_map] at h;cases hi:ids[i]? with
 | none=>rw [hi] at h; cases h
 | some id=>rw [hi] at h; exact ⟨id,rfl,(Option.some.inj h).symm⟩
theorem zeD {ids:List Int} {ports:Int} {i:Nat} {x:BR} (h:(upBs ids ports)[i]?=some x):∃id,ids[i]?=some id∧x=raised (zo id ports):=by
 unfold upBs at h;rw [List.getElem?_map] at h;cases hi:ids[i]? with
 | none=>rw [hi] at h; cases h
 | some id=>rw [hi] at h; exact ⟨id,rfl,(Option.some.inj h).symm⟩
theorem zcj {ids:List Int} {ports:Int} {i:Nat} {id:Int} (h:ids[i]?=some id):(newBs ids ports)[i]?=some (zo id ports):=by unfold newBs; rw [List.getElem?_map,h]; rfl
theorem zfD {ids:List Int} {ports:Int} {i:Nat} {id:Int} (h:ids[i]?=some id):(upBs ids ports)[i]?=some (raised (zo id ports)):=by unfold upBs; rw [List.getElem?_map,h]; rfl

theorem zht {ids:List Int} {ports b p:Int} {u:PT} (h:zaf (newBs ids ports) b p=some u):u=newPt∧zaf (upBs ids ports) b p=some upPt:=by
 unfold zaf at h ⊢
 split at h
 ·next hc =>
  rw [if_pos hc];cases hB:(newBs ids ports)[b.toNat]? with
  | none=>rw [hB] at h; cases h
  | some B =>
   rw [hB] at h;obtain ⟨id,hi,rfl⟩:=zcK hB;have h:(zo id ports).ports[p.toNat]?=some u:=h;obtain ⟨-,-,hl,h4,h5,-⟩:=zaM id ports;refine ⟨h4 u (List.mem_of_getElem? h), ?_⟩;rw [zfD hi]
   show (raised (zo id ports)).ports[p.toNat]?=some upPt
   have hlt:=(List.getElem?_eq_some_iff.1 h).1;obtain ⟨y,hy⟩:∃y,(raised (zo id ports)).ports[p.toNat]?=some y:=⟨_,List.getElem?_eq_getElem (by omega)⟩;rw [hy,h5 y (List.mem_of_getElem? hy)]
 ·cases h
theorem ziF {ids:List Int} {ports b p:Int} {u:PT} (h:zaf (upBs ids ports) b p=some u):u=upPt∧zaf (newBs ids ports) b p=some newPt:=by
 unfold zaf at h ⊢
 split at h
 ·next hc =>
  rw [if_pos hc];cases hB:(upBs ids ports)[b.toNat]? with
  | none=>rw [hB] at h; cases h
  | some B =>
   rw [hB] at h;obtain ⟨id,hi,rfl⟩:=zeD hB;have h:(raised (zo id ports)).ports[p.toNat]?=some u:=h;obtain ⟨-,-,hl,h4,h5,-⟩:=zaM id ports;refine ⟨h5 u (List.mem_of_getElem? h), ?_⟩;rw [zcj hi]
   show (zo id ports).ports[p.toNat]?=some newPt
   have hlt:=(List.getElem?_eq_some_iff.1 h).1;obtain ⟨y,hy⟩:∃y,(zo id ports).ports[p.toNat]?=some y:=⟨_,List.getElem?_eq_getElem (by omega)⟩;rw [hy,h4 y (List.mem_of_getElem? hy)]
 ·cases h

theorem zj7 (ids:List Int) (ports:Int) (l:List LK):NetOk (newBs ids ports) l []↔NetOk (upBs ids ports) l []:=by
 have hq1:Quiet (newBs ids ports) l:=fun i B hB p x hx hh=>by
  obtain ⟨id,-,rfl⟩:=zcK hB;rw [(zaM id ports).2.2.2.1 x (List.mem_of_getElem? hx)] at hh;cases hh
 have hq2:Quiet (upBs ids ports) l:=fun i B hB p x hx hh=>by
  obtain ⟨id,-,rfl⟩:=zeD hB;rw [(zaM id ports).2.2.2.2.1 x (List.mem_of_getElem? hx)] at hh;cases hh
 have hbr:zaI (newBs ids ports)↔zaI (upBs ids ports):=by
  unfold zaI zg2;have hl:(newBs ids ports).length=(upBs ids ports).length:=by simp [newBs,upBs]
  rw [hl]
  constructor
  ·rintro ⟨h1,h2,h3,h4⟩;refine ⟨fun x hx => ?_,fun i j x y hij hx hy => ?_,h3,h4⟩
   ·obtain ⟨i,hi⟩:=List.getElem?_of_mem hx;obtain ⟨id,hid,rfl⟩:=zeD hi;rw [(zaM id ports).1];exact h1 _ (List.mem_of_getElem? (zcj hid))
   ·obtain ⟨a,ha,rfl⟩:=zeD hx;obtain ⟨b,hb,rfl⟩:=zeD hy;rw [(zaM a ports).2.1,(zaM b ports).2.1];exact h2 i j _ _ hij (zcj ha) (zcj hb)
  ·rintro ⟨h1,h2,h3,h4⟩;refine ⟨fun x hx => ?_,fun i j x y hij hx hy => ?_,h3,h4⟩
   ·obtain ⟨i,hi⟩:=List.getElem?_of_mem hx;obtain ⟨id,hid,rfl⟩:=zcK hi;rw [← (zaM id ports).1];exact h1 _ (List.mem_of_getElem? (zfD hid))
   ·obtain ⟨a,ha,rfl⟩:=zcK hx;obtain ⟨b,hb,rfl⟩:=zcK hy;rw [← (zaM a ports).2.1,← (zaM b ports).2.1];exact h2 i j _ _ hij (zfD ha) (zfD hb)
 have he:∀x:LK,za3 (newBs ids ports) x↔za3 (upBs ids ports) x:=by
  intro x;unfold za3
  constructor
  ·rintro ⟨h,u,v,hu,hv,-⟩;exact ⟨h,upPt,upPt,(zht hu).2,(zht hv).2,rfl⟩
  ·rintro ⟨h,u,v,hu,hv,-⟩;exact ⟨h,newPt,newPt,(ziF hu).2,(ziF hv).2,rfl⟩
 have hln:zaQ (newBs ids ports) l↔zaQ (upBs ids ports) l:=by
  unfold zaQ zfE
  constructor
  ·rintro ⟨h1,h2⟩;exact ⟨h1,fun x hx=>⟨(he x).1 (h2 x hx).1,(h2 x hx).2⟩⟩
  ·rintro ⟨h1,h2⟩;exact ⟨h1,fun x hx=>⟨(he x).2 (h2 x hx).1,(h2 x hx).2⟩⟩
 unfold NetOk;rw [hbr,hln];exact ⟨fun h=>⟨h.1,h.2.1,hq2,h.2.2.2⟩,fun h=>⟨h.1,h.2.1,hq1,h.2.2.2⟩⟩

theorem zdO (B:BR):∀p,lessB (zaS B p) B
 | 0=>⟨Nat.le_refl _,Nat.le_refl _,rfl⟩
 | p+1=>ze0 (ziw _ _ _) (zdO B p)

section
open Go.RowKit

structure zc0 (nn pp:Nat) (ls:List LK):Prop where
 len:ls.length≤9
 at':∀x∈ls,x.a≠x.b∧(0≤x.a∧x.a < (nn:Int))∧(0≤x.b∧x.b < (nn:Int))∧(0≤x.p∧x.p < (pp:Int))∧(0≤x.q∧x.q < (pp:Int))
 nd:(endsL ls).Nodup

theorem zc0.push {nn pp:Nat} {ls:List LK} (h:zc0 nn pp ls) {a p b q:Int} (hab:¬a=b) (ha:0≤a∧a < (nn:Int)) (hb:0≤b∧b < (nn:Int)) (hp:0≤p∧p < (pp:Int)) (hq:0≤q∧q < (pp:Int)) (h1:usedL ls a p=0) (h2:usedL ls b q=0) (h9:ls.length < 9):zc0 nn pp (ls++[⟨a,p,b,q⟩]) where
 len:=by rw [List.length_append]; simp; omega
 at':=fun x hx=>by
  rcases List.mem_append.1 hx with h3 | h3
  ·exact h.at' x h3
  ·simp at h3
   subst h3;exact ⟨hab,ha,hb,hp,hq⟩
 nd:=by
  rw [zdW,List.nodup_append];refine ⟨h.nd,by simp [endsL,hab],fun x hx y hy => ?_⟩;unfold usedL at h1 h2;rw [List.count_eq_zero] at h1 h2;have hy:y=(a,p)∨y=(b,q):=by simpa [endsL] using hy
  rintro rfl;rcases hy with rfl | rfl
  ·exact h1 hx
  ·exact h2 hx

structure LkSt (w wr:World) (C:Nat) (a0:Option Addr) (l0 c0:Nat) (z0:List Int) (la:Option Addr) (lc:Nat) (ls:List LK):Prop where
 box:wr.heap[w.heap.size]?=some (.cells #[.slice none 0 0,.slice la ls.length lc,.slice none 0 0] 31)
 own:wr.ownsRow (w.heap.size+1) 44 4 (.slice la ls.length lc) ls.length (linkF.all ls)
 went:Went w wr C a0 l0 c0 z0
 lt:C < w.heap.size

section
variable {w wr w':World} {C:Nat} {a0:Option Addr} {l0 c0:Nat} {z0:List Int} {la:Option Addr} {lc:Nat} {ls:List LK}
theorem LkSt.later (h:LkSt w wr C a0 l0 c0 z0 la lc ls) (hb:Below wr.heap.size wr w'):LkSt w w' C a0 l0 c0 z0 la lc ls:=⟨za h.box hb,zh h.own hb,h.went.made hb,h.lt⟩
theorem LkSt.goes (h:LkSt w wr C a0 l0 c0 z0 la lc ls) (wt:Went wr w' C a0 l0 c0 z0):LkSt w w' C a0 l0 c0 z0 la lc ls :=
 ⟨ze h.box wt.grown (fun j e=>by cases e; exact Nat.ne_of_lt h.lt),zG h.own wt.grown (fun b hb=>by cases hb; exact Nat.lt_succ_of_lt h.lt),h.went.trans wt,h.lt⟩
theorem LkSt.row (h:LkSt w wr C a0 l0 c0 z0 la lc ls):zax wr ⟨none,0,0,[],la,ls.length,lc,ls,none,0,0,[]⟩ :=
 ⟨zdj _ _,(by intro x hx; cases hx),zB (F:=linkF) h.own,zdj _ _⟩
theorem LkSt.pushed (h:LkSt w wr C a0 l0 c0 z0 la lc ls) {a7:Option Addr} {c7:Nat} {l7:List LK} {w7:World} (how:w7.ownsRow (w.heap.size+1) 44 4 (.slice a7 l7.length c7) l7.length (linkF.all l7)) (kX:w7.heap[w.heap.size]?=some (.cells #[.slice none 0 0,.slice la ls.length lc,.slice none 0 0] 31)) (hb7:Below (w.heap.size+1) wr w7):LkSt w (w7.setCell ⟨w.heap.size,1,none⟩ (.slice a7 l7.length c7)) C a0 l0 c0 z0 a7 c7 l7 where
 box:=by have:=zE (j:=1) kX (.slice a7 l7.length c7); simpa using this
 own:=zt how (zn (rb:=w.heap.size) 1 _) (zz how kX (by decide))
 went:=by
  have h1:=h.went.madeAt hb7 (Nat.lt_succ_of_lt h.lt) (Nat.le_succ _);exact h1.madeAt (zu (Below.refl w.heap.size w7) (g:=w.heap.size) (Nat.le_refl _) 1 _) h.lt (Nat.le_refl _)
 lt:=h.lt
end

theorem zfX (C:Nat) (a0:Option Addr) (l0 c0:Nat) (z0:List Int) (nn pp:Nat) (w:World) (hc:Cur w C a0 l0 c0 z0) (hn1:1≤nn) (hn:nn≤100) (hp1:1≤pp) (hp:pp≤100) :
  Calls Tryz.prog 40 #[.pointer (some ⟨C,0,none⟩),.int .i64 nn,.int .i64 pp] w fun e w'=>∃(la:Option Addr) (lc:Nat) (ls:List LK),e=.returned (.slice la ls.length lc)∧zc0 nn pp ls∧w'.ownsRow w.heap.size 44 4 (.slice la ls.length lc) ls.length (linkF.all ls)∧Went w w' C a0 l0 c0 z0:=by
 have hlt:=hc.lt;go_enter Tryz.func40,Tryz.ntmps40;go_wp2_with fail
 generalize hw1:w.alloc (Obj.cells #[.slice none 0 0,.slice none 0 0,.slice none 0 0] 31)=w1;have b1:=zb hw1;have k1:=zk hw1;have st1:LkSt w w1 C a0 l0 c0 z0 none 0 []:=⟨k1,World.ownsRow_nil _ _ _ _,Went.start hc b1,hlt⟩;clear hw1 b1 k1
 go_loopw [8,9,10,11,12] (fun i u9 u10 u11 u12 wr=>∃(k:Nat) (la:Option Addr) (lc:Nat) (ls:List LK),i=.int .i64 (k:Int)∧k≤nn+4∧zc0 nn pp ls∧LkSt w wr C a0 l0 c0 z0 la lc ls) (fun i _ _ _ _ _=>nn+5 - (intOf i).toNat)
 case atStart=>exact ⟨0,none,0,[],rfl,Nat.zero_le _,⟨by simp,(by intro x hx; cases hx),List.nodup_nil⟩,st1⟩
 case round =>
  clear st1;obtain ⟨k,la,lc,ls,rfl,hk,hLI,st⟩:=hrel;have HLI:=hide hLI;clear hLI;(go_wp2_with fail);refine (zal C a0 l0 c0 z0 4 _ st.went.cur (by omega)).mono ?_;rintro e wz ⟨d,rfl,d0,d1,-,wt⟩;have st:=st.goes wt;clear wt;generalize wz=wc at *;have d1:=d1 (by omega);by_cases hkd:(k:Int) < (nn:Int)+d
  ·(go_wp2_with fail);refine (zal C a0 l0 c0 z0 (nn:Int) _ st.went.cur (by omega)).mono ?_;rintro e wz ⟨ga,rfl,ga0,ga1,-,wt⟩;have st:=st.goes wt;clear wt;generalize wz=wc at *;have ga1:=ga1 (by omega);(go_wp2_with fail);refine (zal C a0 l0 c0 z0 2 _ st.went.cur (by omega)).mono ?_;rintro e wz ⟨gc,rfl,gc0,gc1,-,wt⟩;have st:=st.goes wt;clear wt;generalize wz=wc at *;have gc1:=gc1 (by omega);have hmm:(ga+1+gc).tmod (nn:Int)=(ga+1+gc) % (nn:Int):=Int.tmod_eq_emod_of_nonneg (by omega);have hn0:¬(nn:Int)=0:=by omega
   have gb0:0≤(ga+1+gc) % (nn:Int):=Int.emod_nonneg _ hn0;have gb1:(ga+1+gc) % (nn:Int) < (nn:Int):=Int.emod_lt_of_pos _ (by omega);(go_upto_region 7 with fail);generalize (ga+1+gc) % (nn:Int)=gb at *
   go_cut [40] from 32 to 39 (fun s wx=>∃q:Bool,s=.bool q∧(q=true→(k:Int) < (nn:Int) - 1)∧LkSt w wx C a0 l0 c0 z0 la lc ls)
   case first =>
    by_cases hk1:(k:Int) < (nn:Int) - 1
    ·(go_wp2_with fail);refine (zhn C a0 l0 c0 z0 5 _ st.went.cur (by omega)).mono ?_;rintro e wz ⟨q,rfl,wt⟩;have st:=st.goes wt;clear wt;generalize wz=wc at *;have HST:=hide st;clear st;(go_wp2_with fail)
     go_meet
     exact ⟨!q,rfl,fun _=>hk1,HST.out⟩
    ·have HST:=hide st;clear st;(go_wp2_with fail)
     go_meet
     exact ⟨false,rfl,(fun e=>by cases e),HST.out⟩
   case rest =>
    clear st;obtain ⟨q,rfl,hq,st⟩:=hcut
    go_upto_if 40 with fail
    go_cut [9,10] from 41 to 43 (fun s t wx=>∃fa fb:Int,s=.int .i64 fa∧t=.int .i64 fb∧0≤fa∧fa < (nn:Int)∧0≤fb∧fb < (nn:Int)∧LkSt w wx C a0 l0 c0 z0 la lc ls)
    case first =>
     have HST:=hide st;clear st;cases q
     ·(go_wp2_with fail)
      go_meet
      exact ⟨ga,gb,rfl,rfl,ga0,ga1,gb0,gb1,HST.out⟩
     ·have hk1:=hq rfl;(go_wp2_with fail)
      go_meet
      exact ⟨(k:Int),(k:Int)+1,rfl,rfl,by omega,by omega,by omega,by omega,HST.out⟩
    case rest =>
     clear st hq ga0 ga1 gb0 gb1 gc0 gc1 hmm;obtain ⟨fa,fb,rfl,rfl,fa0,fa1,fb0,fb1,st⟩:=hcut;(go_wp2_with fail);refine (zal C a0 l0 c0 z0 (pp:Int) _ st.went.cur (by omega)).mono ?_;rintro e wz ⟨gp,rfl,gp0,gp1,-,wt⟩;have st:=st.goes wt;clear wt;generalize wz=wc at *;have gp1:=gp1 (by omega);(go_wp2_with fail);refine (zal C a0 l0 c0 z0 (pp:Int) _ st.went.cur (by omega)).mono ?_;rintro e wz ⟨gq,rfl,gq0,gq1,-,wt⟩;have st:=st.goes wt;clear wt;generalize wz=wc at *;have gq1:=gq1 (by omega)
     go_upto_block 2 with fail
     go_cut [11] from 50 to 62 (fun v wx=>∃y:Int,v=.int .i64 y∧0≤y∧y < (pp:Int)∧LkSt w wx C a0 l0 c0 z0 la lc ls)
     case first =>
      (go_wp2_with fail)
      go_loopw [11] (fun v wx=>∃y:Nat,v=.int .i64 (y:Int)∧y < pp∧LkSt w wx C a0 l0 c0 z0 la lc ls) (fun v _=>pp - (intOf v).toNat)
      case atStart=>exact ⟨gp.toNat,by rw [show ((gp.toNat:Nat):Int)=gp by omega],by omega,st⟩
      case round =>
       clear st;obtain ⟨y,rfl,hy,st⟩:=hrel;have x:=zd st.box;obtain ⟨x0,x1,x2⟩:=x;(go_wp2_with fail);refine (zbh ⟨none,0,0,[],la,ls.length,lc,ls,none,0,0,[]⟩ fa (y:Int) _ st.row (by have:=HLI.out.len; dsimp only; omega)).mono ?_;rintro e wz ⟨rfl,hbz⟩;have st:=st.later hbz;clear hbz x0 x1 x2;generalize wz=wc at *;by_cases hu:0 < ((usedL ls fa (y:Int):Nat):Int)
       ·by_cases hy1:(y:Int)+1 < (pp:Int)
        ·have HST:=hide st;clear st;go_wp2
         go_roundw
         case rel=>exact ⟨y+1,by go_num,by omega,HST.out⟩
         case measure=>simp [intOf]; omega
        ·have HST:=hide st;clear st;(go_wp2_with fail)
         go_meet
         exact ⟨(y:Int),rfl,by omega,by omega,HST.out⟩
       ·have HST:=hide st;clear st;(go_wp2_with fail)
        go_meet
        exact ⟨(y:Int),rfl,by omega,by omega,HST.out⟩
     case rest =>
      clear st;obtain ⟨fp,rfl,fp0,fp1,st⟩:=hcut
      go_upto_block 4 with fail
      go_cut [12] from 63 to 75 (fun v wx=>∃y:Int,v=.int .i64 y∧0≤y∧y < (pp:Int)∧LkSt w wx C a0 l0 c0 z0 la lc ls)
      case first =>
       (go_wp2_with fail)
       go_loopw [12] (fun v wx=>∃y:Nat,v=.int .i64 (y:Int)∧y < pp∧LkSt w wx C a0 l0 c0 z0 la lc ls) (fun v _=>pp - (intOf v).toNat)
       case atStart=>exact ⟨gq.toNat,by rw [show ((gq.toNat:Nat):Int)=gq by omega],by omega,st⟩
       case round =>
        clear st;obtain ⟨y,rfl,hy,st⟩:=hrel;have x:=zd st.box;obtain ⟨x0,x1,x2⟩:=x;(go_wp2_with fail);refine (zbh ⟨none,0,0,[],la,ls.length,lc,ls,none,0,0,[]⟩ fb (y:Int) _ st.row (by have:=HLI.out.len; dsimp only; omega)).mono ?_;rintro e wz ⟨rfl,hbz⟩;have st:=st.later hbz;clear hbz x0 x1 x2;generalize wz=wc at *;by_cases hu:0 < ((usedL ls fb (y:Int):Nat):Int)
        ·by_cases hy1:(y:Int)+1 < (pp:Int)
         ·have HST:=hide st;clear st;go_wp2
          go_roundw
          case rel=>exact ⟨y+1,by go_num,by omega,HST.out⟩
          case measure=>simp [intOf]; omega
         ·have HST:=hide st;clear st;(go_wp2_with fail)
          go_meet
          exact ⟨(y:Int),rfl,by omega,by omega,HST.out⟩
        ·have HST:=hide st;clear st;(go_wp2_with fail)
         go_meet
         exact ⟨(y:Int),rfl,by omega,by omega,HST.out⟩
      case rest =>
       clear st;obtain ⟨fq,rfl,fq0,fq1,st⟩:=hcut;(go_upto_region 16 with fail)
       go_cut [98] from 76 to 97 (fun s wx=>∃q:Bool,s=.bool q∧(q=true→¬fa=fb∧usedL ls fa fp=0∧usedL ls fb fq=0∧ls.length < 9)∧LkSt w wx C a0 l0 c0 z0 la lc ls)
       case first =>
        by_cases hab:fa=fb
        ·have hab':(fa != fb)=false:=by simp [hab]
         have HST:=hide st;clear st;(go_wp2_with fail)
         go_meet
         exact ⟨false,rfl,(fun e=>by cases e),HST.out⟩
        ·have hab':(fa != fb)=true:=by simp [hab]
         have x:=zd st.box;obtain ⟨x0,x1,x2⟩:=x;(go_wp2_with fail);refine (zbh ⟨none,0,0,[],la,ls.length,lc,ls,none,0,0,[]⟩ fa fp _ st.row (by have:=HLI.out.len; dsimp only; omega)).mono ?_;rintro e wz ⟨rfl,hbz⟩;have st:=st.later hbz;clear hbz x0 x1 x2;generalize wz=wc at *;by_cases hu1:((usedL ls fa fp:Nat):Int)=0
         ·have x:=zd st.box;obtain ⟨x0,x1,x2⟩:=x;(go_wp2_with fail);refine (zbh ⟨none,0,0,[],la,ls.length,lc,ls,none,0,0,[]⟩ fb fq _ st.row (by have:=HLI.out.len; dsimp only; omega)).mono ?_;rintro e wz ⟨rfl,hbz⟩;have st:=st.later hbz;clear hbz x0 x1 x2;generalize wz=wc at *;by_cases hu2:((usedL ls fb fq:Nat):Int)=0
          ·obtain ⟨x0,x1,x2⟩:=zd st.box;by_cases h9:(ls.length:Int) < 9
           ·have HST:=hide st;clear st;(go_wp2_with fail)
            go_meet
            exact ⟨true,by first | rfl | simp [h9],fun _=>⟨hab,by omega,by omega,by omega⟩,HST.out⟩
           ·have HST:=hide st;clear st;(go_wp2_with fail)
            go_meet
            exact ⟨false,by first | rfl | simp [h9],(fun e=>by cases e),HST.out⟩
          ·have HST:=hide st;clear st;(go_wp2_with fail)
           go_meet
           exact ⟨false,rfl,(fun e=>by cases e),HST.out⟩
         ·have HST:=hide st;clear st;(go_wp2_with fail)
          go_meet
          exact ⟨false,rfl,(fun e=>by cases e),HST.out⟩
       case rest =>
        clear st;obtain ⟨q,rfl,hq,st⟩:=hcut;cases q
        ·have HST:=hide st;clear st hq;go_wp2
         go_roundw
         case rel=>exact ⟨k+1,la,lc,ls,by go_num,by omega,HLI.out,HST.out⟩
         case measure=>simp [intOf]; omega
        ·obtain ⟨hab,hu1,hu2,h9⟩:=hq rfl;have HLI2:Hid (zc0 nn pp (ls++[⟨fa,fp,fb,fq⟩])):=hide (HLI.out.push hab ⟨fa0,fa1⟩ ⟨fb0,fb1⟩ ⟨fp0,fp1⟩ ⟨fq0,fq1⟩ hu1 hu2 h9);have HL1:Hid ((ls++[(⟨fa,fp,fb,fq⟩:LK)]).length=ls.length+1):=hide (by rw [List.length_append]; rfl);generalize hwa:wc.alloc (Obj.cells #[.int .i64 fa,.int .i64 fp,.int .i64 fb,.int .i64 fq] 44)=wa;have ba:=zb hwa;have ka:=zk hwa;have gone:GRow linkF wa (some ⟨wc.heap.size,0,none⟩) 1 1 [⟨fa,fp,fb,fq⟩]:=zB (F:=linkF) (zer linkF (x:=⟨fa,fp,fb,fq⟩) (base:=0) ka rfl (Nat.zero_le _));obtain ⟨v0,v1,v2⟩:=zd st.box;have st:=st.later ba;have hbA:w.heap.size+1≤wa.heap.size:=Nat.succ_le_of_lt (Array.getElem?_eq_some_iff.1 st.box).1;have HSA:=hide st;have how0:=st.own;obtain ⟨x0,x1,x2⟩:=zd st.box;clear st;go_wp2_with (at_builtin; refine zM (F:=linkF) _ rfl _ _ 25 44 rfl (w.heap.size+1) Tryz.underlying25 zaU rfl (by decide) _ ls.length ls rfl how0 (some ⟨wc.heap.size,0,none⟩) 1 1 [⟨fa,fp,fb,fq⟩] rfl gone (by omega) hbA ?_)
         intro a7 c7 w7 how hr hgr hb7;have kX:=ze HSA.out.box hgr (fun b e=>zz how0 HSA.out.box (by decide) b e);obtain ⟨y0,y1,y2⟩:=zd kX;have f1:=zf kX 1;rw [← HL1.out] at how;have HS2:=hide (HSA.out.pushed how kX hb7);have HOWL:=hide HL1.out;clear how hr hgr hb7 gone ka hwa ba how0 x0 x1 x2 v0 v1 v2;(go_wp2_with fail);rw [← HL1.out];generalize hws:w7.setCell ⟨w.heap.size,1,none⟩ (.slice a7 (ls++[(⟨fa,fp,fb,fq⟩:LK)]).length c7)=ws;have HS3:=HS2;rw [hws] at HS3;clear HS2 hws kX y0 y1 y2 f1;go_wp2
         go_roundw
         case rel=>exact ⟨k+1,a7,c7,_,by go_num,by omega,HLI2.out,HS3.out⟩
         case measure=>simp [intOf]; omega
  ·have HST:=hide st;obtain ⟨x0,x1,x2⟩:=zd st.box;clear st;go_wp2;go_ret;exact ⟨la,lc,ls,rfl,HLI.out,zF HST.out.own (Nat.le_succ _),HST.out.went⟩

end

structure Way (x:LK) (back:Bool) (fb fp tb tp:Int):Prop where
 yes:back=true→fb=x.b∧fp=x.q∧tb=x.a∧tp=x.p
 no:back=false→fb=x.a∧fp=x.p∧tb=x.b∧tp=x.q

theorem zb6 (x:LK) (back:Bool) (fb fp tb tp:Int) (w:World) (hw:Way x back fb fp tb tp) :
  Calls Tryz.prog 117 #[.agg #[.int .i64 x.a,.int .i64 x.p,.int .i64 x.b,.int .i64 x.q],.bool back] w fun e w'=>e=.returned (.tuple #[.agg #[.int .i64 fb,.int .i64 fp],.agg #[.int .i64 tb,.int .i64 tp]])∧Below w.heap.size w w':=by
 generalize hw1:w.alloc (Obj.cells #[.int .i64 x.a,.int .i64 x.p,.int .i64 x.b,.int .i64 x.q] 44)=w1;generalize hw2:w1.alloc (Obj.cells #[.int .i64 0,.int .i64 0] 85)=w2;generalize hw3:w2.alloc (Obj.cells #[.int .i64 0,.int .i64 0] 85)=w3;have b01:=zb hw1;have b12:=zb hw2;have b23:=zb hw3;have b13:=zc b12 b23;have k0:=za (zk hw1) b13;have k1:=za (zk hw2) b23;have k2:=zk hw3;have b03:=zc b01 b13;have HZ:Hid (w1.heap.size=w.heap.size+1∧w2.heap.size=w.heap.size+2):=hide ⟨by rw [← hw1]; simp,by rw [← hw2,← hw1]; simp⟩;have HZ3:Hid (w3.heap.size=w.heap.size+3):=hide (by rw [← hw3,← hw2,← hw1]; simp);obtain ⟨x0,x1,x2,x3⟩:=zK k0;go_enter Tryz.func117,Tryz.ntmps117;go_wp2_with fail
 refine (zb2 x _).mono ?_;rintro e we ⟨rfl,hbe⟩;generalize hwq:we.alloc (Obj.cells #[.int .i64 x.a,.int .i64 x.p,.int .i64 x.b,.int .i64 x.q] 86)=wq;have bq:=zb hwq;have kE:=zk hwq;have bq:=zc hbe bq;have k1:=za k1 bq;have k2:=za k2 bq;have b0:=zc b03 bq;have HZ4:Hid (w.heap.size+3≤we.heap.size):=hide (by have:=hbe.size; have:=HZ3.out; omega);clear x0 x1 x2 x3 hbe k0 hw1 hw2 hw3 b01 b12 b23 b13 b03;cases back
 ·obtain ⟨rfl,rfl,rfl,rfl⟩:=hw.no rfl;clear hw;(go_upto_region 4 with fail);clear hwq;have vv:Below wq.heap.size wq wq.drew:=zp (Below.refl _ _);have bb:=zc b0 vv;obtain ⟨p0,p1⟩:=zj k1;obtain ⟨p2,p3⟩:=zj k2;have p4:=zf k1 0;have p5:=zf k1 1;have p6:=zf k2 0;have p7:=zf k2 1;have k1:=za k1 vv;have k2:=za k2 vv;have kE:=za kE vv;clear b0 bq vv;refine wp_region_held_drew (S:=(fun W=>(W.cell? ⟨we.heap.size,0,none⟩=some (.int .i64 x.a)∧W.cell? ⟨we.heap.size,1,none⟩=some (.int .i64 x.p)∧W.cell? ⟨we.heap.size,2,none⟩=some (.int .i64 x.b)∧W.cell? ⟨we.heap.size,3,none⟩=some (.int .i64 x.q)))) (by kernel_rfl) (zK kE) (fun hHeld => ?_);refine kK 0 ⟨some 14,.indexAddr 86 (.tmp 6) (.const (.int .i64 0)),0,"l14_step.go:175",#[],none⟩ ?_;refine kK 1 ⟨some 15,.load 85 (.tmp 14),85,"l14_step.go:175",#[⟨0,.data⟩],none⟩ ?_;refine kK 2 ⟨some 16,.indexAddr 86 (.tmp 6) (.const (.int .i64 1)),0,"l14_step.go:175",#[{ on:=4,ground:=Ground.gcOnly Departure.lateStores }],none⟩ ?_;refine kK 3 ⟨some 17,.load 85 (.tmp 16),85,"l14_step.go:175",#[⟨2,.data⟩,{ on:=4,ground:=Ground.gcOnly Departure.lateStores }],none⟩ ?_;refine kR 4 ⟨none,.store 85 (.tmp 4) (.tmp 15),0,"l14_step.go:175",#[⟨1,.data⟩,⟨0,.phase⟩,⟨1,.phase⟩,{ on:=2,ground:=Ground.textOnly Departure.lateStores },{ on:=3,ground:=Ground.textOnly Departure.lateStores }],none⟩ (fun K hK => ?_);obtain ⟨xx0,xx1⟩:=zj k1;have ff0:=zf k1 0;have ff1:=zf k1 1;go_simp;refine zJ (K:=K _) k1 _ _ (fun wq kQ hgq => ?_);have bb:=bb.grown hgq bb.size (by intro j e; cases e; have:=HZ.out; omega);have kE:=ze kE hgq (by intro j e; cases e; have:=HZ.out; have:=HZ4.out; omega);(try have k2:=ze k2 hgq (by intro j e; cases e; have:=HZ.out; omega));(try have kA:=ze kA hgq (by intro j e; cases e; have:=HZ.out; omega));(try have kB:=ze kB hgq (by intro j e; cases e; have:=HZ.out; omega));have kA:=kQ;clear hgq kQ xx0 xx1 ff0 ff1;refine hK.out _ _ (zK kE) (fun hHeld => ?_);clear hK K;(try simp only [Act.put,lA,lB,lC]);refine kR 5 ⟨none,.store 85 (.tmp 5) (.tmp 17),0,"l14_step.go:175",#[⟨3,.data⟩,⟨4,.chain⟩,⟨0,.phase⟩,⟨1,.phase⟩,⟨2,.phase⟩,⟨3,.phase⟩,⟨4,.phase⟩],none⟩ (fun K hK => ?_);obtain ⟨xx0,xx1⟩:=zj k2;have ff0:=zf k2 0;have ff1:=zf k2 1;go_simp;refine zJ (K:=K _) k2 _ _ (fun wq kQ hgq => ?_);have bb:=bb.grown hgq bb.size (by intro j e; cases e; have:=HZ.out; omega);have kE:=ze kE hgq (by intro j e; cases e; have:=HZ.out; have:=HZ4.out; omega);(try have k1:=ze k1 hgq (by intro j e; cases e; have:=HZ.out; omega));(try have kA:=ze kA hgq (by intro j e; cases e; have:=HZ.out; omega));(try have kB:=ze kB hgq (by intro j e; cases e; have:=HZ.out; omega));have kB:=kQ;clear hgq kQ xx0 xx1 ff0 ff1;refine hK.out _ _ (zK kE) (fun hHeld => ?_);clear hK K;(try simp only [Act.put,lA,lB,lC]);refine wpAnyH_done (by kernel_rfl) ?_ _;have HB:=hide bb;obtain ⟨r0,r1⟩:=zj kA;obtain ⟨t0,t1⟩:=zj kB;clear hHeld kE k1 k2 kA kB bb;go_wp2;exact bodyPost_ret (v:=.tuple #[.agg #[.int .i64 x.a,.int .i64 x.p],.agg #[.int .i64 x.b,.int .i64 x.q]]) (by simp [results,Tryz.results117,go_sem, *]) rfl ⟨rfl,HB.out⟩
 ·obtain ⟨rfl,rfl,rfl,rfl⟩:=hw.yes rfl;clear hw;(go_upto_region 3 with fail);clear hwq;have vv:Below wq.heap.size wq wq.drew:=zp (Below.refl _ _);have bb:=zc b0 vv;obtain ⟨p0,p1⟩:=zj k1;obtain ⟨p2,p3⟩:=zj k2;have p4:=zf k1 0;have p5:=zf k1 1;have p6:=zf k2 0;have p7:=zf k2 1;have k1:=za k1 vv;have k2:=za k2 vv;have kE:=za kE vv;clear b0 bq vv;refine wp_region_held_drew (S:=(fun W=>(W.cell? ⟨we.heap.size,0,none⟩=some (.int .i64 x.a)∧W.cell? ⟨we.heap.size,1,none⟩=some (.int .i64 x.p)∧W.cell? ⟨we.heap.size,2,none⟩=some (.int .i64 x.b)∧W.cell? ⟨we.heap.size,3,none⟩=some (.int .i64 x.q)))) (by kernel_rfl) (zK kE) (fun hHeld => ?_);refine kK 0 ⟨some 10,.indexAddr 86 (.tmp 6) (.const (.int .i64 1)),0,"l14_step.go:173",#[],none⟩ ?_;refine kK 1 ⟨some 11,.load 85 (.tmp 10),85,"l14_step.go:173",#[⟨0,.data⟩],none⟩ ?_;refine kK 2 ⟨some 12,.indexAddr 86 (.tmp 6) (.const (.int .i64 0)),0,"l14_step.go:173",#[{ on:=4,ground:=Ground.gcOnly Departure.lateStores }],none⟩ ?_;refine kK 3 ⟨some 13,.load 85 (.tmp 12),85,"l14_step.go:173",#[⟨2,.data⟩,{ on:=4,ground:=Ground.gcOnly Departure.lateStores }],none⟩ ?_;refine kR 4 ⟨none,.store 85 (.tmp 4) (.tmp 11),0,"l14_step.go:173",#[⟨1,.data⟩,⟨0,.phase⟩,⟨1,.phase⟩,{ on:=2,ground:=Ground.textOnly Departure.lateStores },{ on:=3,ground:=Ground.textOnly Departure.lateStores }],none⟩ (fun K hK => ?_);obtain ⟨xx0,xx1⟩:=zj k1;have ff0:=zf k1 0;have ff1:=zf k1 1;go_simp;refine zJ (K:=K _) k1 _ _ (fun wq kQ hgq => ?_);have bb:=bb.grown hgq bb.size (by intro j e; cases e; have:=HZ.out; omega);have kE:=ze kE hgq (by intro j e; cases e; have:=HZ.out; have:=HZ4.out; omega);(try have k2:=ze k2 hgq (by intro j e; cases e; have:=HZ.out; omega));(try have kA:=ze kA hgq (by intro j e; cases e; have:=HZ.out; omega));(try have kB:=ze kB hgq (by intro j e; cases e; have:=HZ.out; omega));have kA:=kQ;clear hgq kQ xx0 xx1 ff0 ff1;refine hK.out _ _ (zK kE) (fun hHeld => ?_);clear hK K;(try simp only [Act.put,lA,lB,lC]);refine kR 5 ⟨none,.store 85 (.tmp 5) (.tmp 13),0,"l14_step.go:173",#[⟨3,.data⟩,⟨4,.chain⟩,⟨0,.phase⟩,⟨1,.phase⟩,⟨2,.phase⟩,⟨3,.phase⟩,⟨4,.phase⟩],none⟩ (fun K hK => ?_);obtain ⟨xx0,xx1⟩:=zj k2;have ff0:=zf k2 0;have ff1:=zf k2 1;go_simp;refine zJ (K:=K _) k2 _ _ (fun wq kQ hgq => ?_);have bb:=bb.grown hgq bb.size (by intro j e; cases e; have:=HZ.out; omega);have kE:=ze kE hgq (by intro j e; cases e; have:=HZ.out; have:=HZ4.out; omega);(try have k1:=ze k1 hgq (by intro j e; cases e; have:=HZ.out; omega));(try have kA:=ze kA hgq (by intro j e; cases e; have:=HZ.out; omega));(try have kB:=ze kB hgq (by intro j e; cases e; have:=HZ.out; omega));have kB:=kQ;clear hgq kQ xx0 xx1 ff0 ff1;refine hK.out _ _ (zK kE) (fun hHeld => ?_);clear hK K;(try simp only [Act.put,lA,lB,lC]);refine wpAnyH_done (by kernel_rfl) ?_ _;have HB:=hide bb;obtain ⟨r0,r1⟩:=zj kA;obtain ⟨t0,t1⟩:=zj kB;clear hHeld kE k1 k2 kA kB bb;go_wp2;exact bodyPost_ret (v:=.tuple #[.agg #[.int .i64 x.b,.int .i64 x.q],.agg #[.int .i64 x.a,.int .i64 x.p]]) (by simp [results,Tryz.results117,go_sem, *]) rfl ⟨rfl,HB.out⟩

theorem zdt (N:NV) (k i:Nat) (x:LK) (y:BV) (back:Bool) (fp tb tp:Int) (w:World) (h:zax w N) (hx:N.ls[k]?=some x) (hy0:N.bs[i]?=some y) (hwy:Way x back (i:Int) fp tb tp) :
  Calls Tryz.prog 74 #[.agg #[.slice N.ba N.bn N.bc,.slice N.la N.ln N.lc,.slice N.sa N.sn N.sc],.int .i64 (k:Int),.bool back] w fun e w'=>e=.returned (.agg #[.int .i64 (k:Int),.bool back,.int .i64 (sayV y.B.id y.B.ports fp).r,.int .i64 (sayV y.B.id y.B.ports fp).c,.int .i64 (sayV y.B.id y.B.ports fp).h,.int .i64 (sayV y.B.id y.B.ports fp).b,.int .i64 (sayV y.B.id y.B.ports fp).p])∧Below w.heap.size w w':=by
 have hk:k < N.ln:=by have:=(List.getElem?_eq_some_iff.1 hx).1; have:=h.l.size; omega
 have hib:i < N.bn:=by have:=(List.getElem?_eq_some_iff.1 hy0).1; have:=h.b.size; omega
 have hle:=Nat.le_trans h.b.le h.b.top;unfold maxLen at hle;generalize hw1:w.alloc (Obj.cells #[.slice N.ba N.bn N.bc,.slice N.la N.ln N.lc,.slice N.sa N.sn N.sc] 31)=w1;generalize hw2:w1.alloc (Obj.cells #[.int .i64 0,.bool false,.int .i64 0,.int .i64 0,.int .i64 0,.int .i64 0,.int .i64 0] 90)=w2;have b01:=zb hw1;have b12:=zb hw2;have b02:=zc b01 b12;have kP:=za (zk hw1) b12;have kJ:=zk hw2;have HZ1:Hid (w1.heap.size=w.heap.size+1):=hide (by rw [← hw1]; simp);have HZ2:Hid (w2.heap.size=w.heap.size+2):=hide (by rw [← hw2,← hw1]; simp);obtain ⟨x',lb,lo,hx',hla,a0,a1,a2,a3⟩:=zaF (h.l.below b02) k hk;rw [hx] at hx';cases hx';obtain ⟨y',bb,off,hy',hba,-⟩:=br_at h.b i hib;rw [hy0] at hy';cases hy';have hy:=h.item y (List.mem_of_getElem? hy0);have hG:GRow brF w (some ⟨bb,off,none⟩) N.bn N.bc N.bs:=by rw [← hba]; exact h.b
 have HBC:Hid (∀W,Below w.heap.size w W→W.cell? ⟨bb,off+i*11,none⟩=some (.int .i64 y.B.id)∧W.cell? ⟨bb,off+i*11+2,none⟩=some (.slice y.a y.n y.c)):=hide (fun W hW=>by have:=zQ hG hW hy0; exact ⟨this.1,this.2.2.1⟩);have HBA:=hide hba;obtain ⟨x0,x1,x2⟩:=zd kP;rw [hla] at x1;have i1:(0:Int)≤(k:Int):=by omega
 have i2:(k:Int) < (N.ln:Int):=by omega
 clear hla hba hx hy0 hG b01 b12;go_enter Tryz.func74,Tryz.ntmps74;go_wp2_with fail
 refine (zb6 x back (i:Int) fp tb tp _ hwy).mono ?_;rintro e w4 ⟨rfl,b24⟩;generalize hz5:w4.alloc (Obj.cells #[.int .i64 0,.int .i64 0] 85)=z5;generalize hz6:z5.alloc (Obj.cells #[.int .i64 0,.int .i64 0] 85)=z6;have b45:=zb hz5;have b56:=zb hz6;have kF:=za (zk hz5) b56;have kG:=zk hz6;have HZ5:Hid (z5.heap.size=w4.heap.size+1):=hide (by rw [← hz5]; simp);obtain ⟨p0,p1⟩:=zj kF;obtain ⟨p2,p3⟩:=zj kG;have p4:=zf kF 0;have p5:=zf kF 1;have p6:=zf kG 0;have p7:=zf kG 1;have ne1:¬w4.heap.size=z5.heap.size:=by have:=HZ5.out; omega
 have ne2:¬z5.heap.size=w4.heap.size:=by have:=HZ5.out; omega
 have b26:=zc b24 (zc b45 b56);have kP:=za kP b26;have kJ:=za kJ b26;have b06:=zc b02 b26;have HZ4:Hid (w.heap.size+2≤w4.heap.size):=hide (by have:=b24.size; have:=HZ2.out; omega);clear x0 x1 x2 a0 a1 a2 a3 b24 b45 b56 b26 b02 hw1 hw2;go_upto_region 2 with fail
 generalize hw6:(((z6.setCell ⟨w4.heap.size,0,none⟩ (.int .i64 (i:Int))).setCell ⟨w4.heap.size,1,none⟩ (.int .i64 fp)).setCell ⟨z5.heap.size,0,none⟩ (.int .i64 tb)).setCell ⟨z5.heap.size,1,none⟩ (.int .i64 tp)=w6;obtain ⟨w5,hw5⟩:∃w5:World,w5=(z6.setCell ⟨w4.heap.size,0,none⟩ (.int .i64 (i:Int))).setCell ⟨w4.heap.size,1,none⟩ (.int .i64 fp):=⟨_,rfl⟩;have kF5:w5.heap[w4.heap.size]?=some (.cells #[.int .i64 (i:Int),.int .i64 fp] 85):=by rw [hw5]; exact zJ (K:=fun W=>W.heap[w4.heap.size]?=some (.cells #[.int .i64 (i:Int),.int .i64 fp] 85)) kF _ _ (fun wq kQ _=>kQ)
 have hgA:z6.grownBy w5 (some w4.heap.size):=by rw [hw5]; exact zL (zn 0 _) (zn 1 _)
 have hgB:w5.grownBy w6 (some z5.heap.size):=by rw [← hw6,← hw5]; exact zL (zn 0 _) (zn 1 _)
 have kF:=ze kF5 hgB (by intro j e; cases e; exact ne2);have kP:=ze (ze kP hgA (by intro j e; cases e; have:=HZ4.out; omega)) hgB (by intro j e; cases e; have:=HZ4.out; have:=HZ5.out; omega);have kJ:=ze (ze kJ hgA (by intro j e; cases e; have:=HZ4.out; have:=HZ1.out; omega)) hgB (by intro j e; cases e; have:=HZ4.out; have:=HZ5.out; have:=HZ1.out; omega);have b06:=(b06.grown hgA b06.size (by intro j e; cases e; have:=HZ4.out; omega)).grown hgB (Nat.le_trans b06.size hgA.size) (by intro j e; cases e; have:=HZ4.out; have:=HZ5.out; omega);clear hw6 hw5 hgA hgB kF5 p0 p1 p2 p3 p4 p5 p6 p7 kG hz5 hz6 ne1 ne2;obtain ⟨x0,x1,x2⟩:=zd kP;obtain ⟨e0,e1⟩:=zj kF;go_wp2_with fail
 refine (zbf N i bb off _ hle hib HBA.out).mono ?_;rintro e w7 ⟨rfl,b67⟩;have kF:=za kF b67;have kJ:=za kJ b67;have b0:=zc b06 b67;clear x0 x1 x2 e0 e1 b67 b06 kP hwy;have vv:Below w7.heap.size w7 w7.drew:=zp (Below.refl _ _);have kF:=za kF vv;have kJ:=za kJ vv;have hc:=HBC.out _ (zc b0 vv);go_upto_region 3 with fail
 refine wp_region_held_drew (S:=(fun W=>(W.cell? ⟨w4.heap.size,0,none⟩=some (.int .i64 (i:Int))∧W.cell? ⟨w4.heap.size,1,none⟩=some (.int .i64 fp))∧(W.cell? ⟨bb,off+i*11,none⟩=some (.int .i64 y.B.id)∧W.cell? ⟨bb,off+i*11+2,none⟩=some (.slice y.a y.n y.c)))) (by kernel_rfl) (⟨zj kF,hc⟩) (fun hHeld => ?_);refine kK 0 ⟨some 24,.move (.tmp 1),3,"l14_step.go:182",#[],none⟩ ?_;refine kK 1 ⟨some 25,.move (.tmp 2),4,"l14_step.go:182",#[],none⟩ ?_;refine kK 2 ⟨some 26,.move (.tmp 9),78,"l14_step.go:182",#[],none⟩ ?_;refine kK 3 ⟨some 27,.nilCheck (.tmp 26),0,"l14_step.go:182",#[⟨2,.data⟩],none⟩ ?_;refine kK 4 ⟨some 28,.fieldAddr 63 (.tmp 27) 0,0,"l14_step.go:182",#[⟨3,.data⟩],none⟩ ?_;refine kK 5 ⟨some 29,.load 3 (.tmp 28),3,"l14_step.go:182",#[⟨4,.data⟩],none⟩ ?_;refine kK 6 ⟨some 30,.move (.tmp 9),78,"l14_step.go:182",#[],none⟩ ?_;refine kK 7 ⟨some 31,.nilCheck (.tmp 30),0,"l14_step.go:182",#[⟨6,.data⟩],none⟩ ?_;refine kK 8 ⟨some 32,.fieldAddr 63 (.tmp 31) 2,0,"l14_step.go:182",#[⟨7,.data⟩],none⟩ ?_;refine kK 9 ⟨some 33,.load 57 (.tmp 32),57,"l14_step.go:182",#[⟨8,.data⟩],none⟩ ?_;refine kK 10 ⟨some 34,.fieldAddr 85 (.tmp 7) 1,0,"l14_step.go:182",#[],none⟩ ?_;refine kK 11 ⟨some 35,.load 3 (.tmp 34),3,"l14_step.go:182",#[⟨10,.data⟩],none⟩ ?_;refine kR 12 ⟨some 36,.call ⟨.value (.func 119),#[.tmp 29,.tmp 33,.tmp 35],#[3,57,3]⟩,65,"l14_step.go:182",#[⟨5,.data⟩,⟨9,.data⟩,⟨11,.data⟩],none⟩ (fun K hK => ?_);go_simp;refine (zbY y.B.id y.a y.n y.c y.B.ports fp _ (hy.ports.below (zc b0 vv))).mono ?_;rintro e wz ⟨rfl,hbz⟩;have vv:=zc vv hbz;have kF:=za kF hbz;have kJ:=za kJ hbz;have hc:=HBC.out _ (zc b0 vv);generalize hSV:sayV y.B.id y.B.ports fp=SV at *;go_wp2_with fail
 refine hK.out _ _ (⟨zj kF,hc⟩) (fun hHeld => ?_);clear hK K
 try simp only [Act.put,lA,lB,lC]
 refine kK 13 ⟨some 37,.build 90 #[(0,.tmp 24),(1,.tmp 25),(2,.tmp 36)],90,"l14_step.go:182",#[⟨0,.data⟩,⟨1,.data⟩,⟨12,.data⟩],none⟩ ?_;refine kR 14 ⟨none,.store 90 (.tmp 6) (.tmp 37),0,"l14_step.go:182",#[⟨13,.data⟩,⟨12,.chain⟩,⟨0,.phase⟩,⟨1,.phase⟩,⟨2,.phase⟩,⟨3,.phase⟩,⟨4,.phase⟩,⟨5,.phase⟩,⟨6,.phase⟩,⟨7,.phase⟩,⟨8,.phase⟩,⟨9,.phase⟩,⟨10,.phase⟩,⟨11,.phase⟩,⟨12,.phase⟩,⟨13,.phase⟩],none⟩ (fun K hK => ?_);obtain ⟨xx0,xx1,xx2,xx3,xx4,xx5,xx6⟩:=zY kJ;have ff0:=zf kJ 0;have ff1:=zf kJ 1;have ff2:=zf kJ 2;have ff3:=zf kJ 3;have ff4:=zf kJ 4;have ff5:=zf kJ 5;have ff6:=zf kJ 6;go_simp;refine zf0 (K:=K _) kJ _ _ _ _ _ _ _ (fun wq kQ hgq => ?_);have bq:=(zc b0 vv).grown hgq (zc b0 vv).size (by intro j e; cases e; have:=HZ1.out; omega);have kF:=ze kF hgq (by intro j e; cases e; have:=HZ1.out; have:=HZ4.out; omega);have hc:=HBC.out _ bq;refine hK.out _ _ (⟨zj kF,hc⟩) (fun hHeld => ?_);clear hK K
 try simp only [Act.put,lA,lB,lC]
 refine wpAnyH_done (by kernel_rfl) ?_ _;have HB:=hide bq;obtain ⟨r0,r1,r2,r3,r4,r5,r6⟩:=zY kQ;clear hHeld kF kQ hgq bq vv hc kJ xx0 xx1 xx2 xx3 xx4 xx5 xx6 ff0 ff1 ff2 ff3 ff4 ff5 ff6;go_wp2;exact bodyPost_ret (v:=.agg #[.int .i64 (k:Int),.bool back,.int .i64 SV.r,.int .i64 SV.c,.int .i64 SV.h,.int .i64 SV.b,.int .i64 SV.p]) (by simp [results,Tryz.results74,go_sem, *]) rfl ⟨by rw [hSV],HB.out⟩

end Go.Proofs.YtkoekkjfcaiagaaGreat
