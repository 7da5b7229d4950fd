/-
  Packed: NetKeep DrawNt5 NetNewT NetNewS.
-/
import Derived.Test.YtkoekkjfcaiagaaGreatPSKW
import Derived.Test.YtkoekkjfcaiagaaGreatPSBrStepS
import Derived.Test.YtkoekkjfcaiagaaGreatPSDrawNt1
import Derived.Test.YtkoekkjfcaiagaaGreatPSK01
import Derived.Test.YtkoekkjfcaiagaaGreatPSK03
import Derived.Test.YtkoekkjfcaiagaaGreatPSK06
import Derived.Test.YtkoekkjfcaiagaaGreatPSK16
import Derived.Test.YtkoekkjfcaiagaaGreatPSK17
import Derived.Test.YtkoekkjfcaiagaaGreatPSK18
import Derived.Test.YtkoekkjfcaiagaaGreatPSK20
import Derived.Test.YtkoekkjfcaiagaaGreatPSK29
import Derived.Test.YtkoekkjfcaiagaaGreatPSK31
namespace Go.Proofs.YtkoekkjfcaiagaaGreat
set_option maxRecDepth 100000
set_option maxHeartbeats 16000000
open Go.RowKit

structure zdK (ls:List LK) (U:Int→Int→Option Bool) (k:Nat) (B B':BR):Prop where
 id:B'.id=B.id
 ok:zx B'=true
 len:B'.ports.length=B.ports.length
 port:∀(p:Nat) (x':PT),B'.ports[p]?=some x'→∃x,B.ports[p]?=some x∧x'.up=(U (k:Int) (p:Int)).getD x.up∧(x'.has=true→x.has=true∨usedL ls (k:Int) (p:Int)≠0)
structure Kept (ls:List LK) (U:Int→Int→Option Bool) (bs bs':List BR):Prop where
 len:bs'.length=bs.length
 at':∀(k:Nat) (B':BR),bs'[k]?=some B'→∃B,bs[k]?=some B∧zdK ls U k B B'

def noU:Int→Int→Option Bool:=fun _ _=>none
def atU (a p:Int) (up:Bool):Int→Int→Option Bool:=fun b q=>if b=a∧q=p then some up else none
def orU (U V:Int→Int→Option Bool):Int→Int→Option Bool:=fun b q=>(V b q).orElse (fun _=>U b q)

theorem zcf {ls:List LK} {k:Nat} {B:BR} (h:zx B=true):zdK ls noU k B B:=⟨rfl,h,rfl,fun _ x' hx=>⟨x',hx,rfl,.inl⟩⟩
theorem zku {ls:List LK} {bs:List BR} (h:∀B∈bs,zx B=true):Kept ls noU bs bs:=⟨rfl,fun _ B hB=>⟨B,hB,zcf (h B (List.mem_of_getElem? hB))⟩⟩
theorem Kept.trans {ls:List LK} {U V:Int→Int→Option Bool} {a b c:List BR} (h:Kept ls U a b) (g:Kept ls V b c):Kept ls (orU U V) a c where
 len:=g.len.trans h.len
 at':=fun k B'' h2=>by
  obtain ⟨B',h1,g1⟩:=g.at' k B'' h2;obtain ⟨B,h0,g0⟩:=h.at' k B' h1;refine ⟨B,h0,g1.id.trans g0.id,g1.ok,g1.len.trans g0.len,fun p x'' hx'' => ?_⟩;obtain ⟨x',hx',e1,u1⟩:=g1.port p x'' hx'';obtain ⟨x,hx,e0,u0⟩:=g0.port p x' hx';refine ⟨x,hx, ?_,fun hh=>(u1 hh).elim u0 .inr⟩;rw [e1,e0];unfold orU;cases V (k:Int) (p:Int) <;> rfl
theorem orU_no:orU noU noU=noU:=rfl

theorem zf9 {ls:List LK} {U:Int→Int→Option Bool} {bs bs':List BR} (h:Kept ls U bs bs') {b p:Int} {u:PT} (hu:zaf bs b p=some u):∃u',zaf bs' b p=some u'∧u'.up=(U b p).getD u.up:=by
 unfold zaf at hu
 split at hu
 ·next hb =>
  cases hB:bs[b.toNat]? with
  | none=>rw [hB] at hu; cases hu
  | some B =>
   rw [hB] at hu;have hu:B.ports[p.toNat]?=some u:=hu;have hk:b.toNat < bs'.length:=by rw [h.len]; exact (List.getElem?_eq_some_iff.1 hB).1
   obtain ⟨B0,hB0,g⟩:=h.at' b.toNat _ (List.getElem?_eq_getElem hk);rw [hB] at hB0;cases hB0;have hp:p.toNat < (bs'[b.toNat]).ports.length:=by rw [g.len]; exact (List.getElem?_eq_some_iff.1 hu).1
   obtain ⟨x,hx,e,-⟩:=g.port p.toNat _ (List.getElem?_eq_getElem hp);rw [hu] at hx;cases hx;refine ⟨(bs'[b.toNat]).ports[p.toNat], ?_, ?_⟩;rotate_left
   ·rw [show ((b.toNat:Nat):Int)=b by omega,show ((p.toNat:Nat):Int)=p by omega] at e;exact e
   ·unfold zaf;rw [if_pos hb,List.getElem?_eq_getElem hk];exact List.getElem?_eq_getElem hp
 ·cases hu

theorem zdn {ls:List LK} {U:Int→Int→Option Bool} {bs bs':List BR} {ss ss':List SY} (hU:∀y∈ls,U y.a y.p=U y.b y.q) (h:NetOk bs ls ss) (hk:Kept ls U bs bs') (hs:zcr ls ss'):NetOk bs' ls ss':=by
 obtain ⟨⟨h1,h2,h3,h4⟩,⟨l1,l2⟩,q,-⟩:=h;refine ⟨⟨fun x hx => ?_,fun i j x y hij hx hy => ?_,by rw [hk.len]; exact h3,by rw [hk.len]; exact h4⟩,⟨l1,fun x hx => ?_⟩,fun i B' hB' p x' hx' hh => ?_,hs⟩
 ·obtain ⟨k,hk2,rfl⟩:=List.mem_iff_getElem.1 hx;obtain ⟨B,-,g⟩:=hk.at' k _ (List.getElem?_eq_getElem hk2);exact g.ok
 ·obtain ⟨B,hB,g⟩:=hk.at' i x hx;obtain ⟨D,hD,g'⟩:=hk.at' j y hy;rw [g.id,g'.id];exact h2 i j B D hij hB hD
 ·obtain ⟨⟨hne,u,v,hu,hv,huv⟩,hc⟩:=l2 x hx;obtain ⟨u',hu',eu⟩:=zf9 hk hu;obtain ⟨v',hv',ev⟩:=zf9 hk hv;exact ⟨⟨hne,u',v',hu',hv',by rw [eu,ev,hU x hx,huv]⟩,hc⟩
 ·obtain ⟨B,hB,g⟩:=hk.at' i B' hB';obtain ⟨x,hx,-,hu⟩:=g.port p x' hx';rcases hu hh with h5 | h5
  ·exact q i B hB p x hx h5
  ·exact h5

theorem zbK {ls:List LK} {U:Int→Int→Option Bool} {bs:List BR} (h:∀B∈bs,zx B=true) {i:Nat} {f:BR→BR} (hn:∀k:Nat,k≠i→∀p,U (k:Int) p=none) (hf:∀B,bs[i]?=some B→zdK ls U i B (f B)):Kept ls U bs (atSet bs i f):=by
 have base:∀(k:Nat) (B:BR),bs[k]?=some B→k≠i→zdK ls U k B B:=fun k B hB hk=>⟨rfl,h B (List.mem_of_getElem? hB),rfl,fun p x hx=>⟨x,hx,by rw [hn k hk]; rfl,.inl⟩⟩
 unfold atSet
 split
 ·next B hB =>
  refine ⟨by simp,fun k B' hB' => ?_⟩;rw [List.getElem?_set] at hB'
  split at hB'
  ·next e =>
   subst e
   split at hB'
   ·cases hB';exact ⟨B,hB,hf B hB⟩
   ·cases hB'
  ·next e=>exact ⟨B',hB',base k B' hB' (fun h=>e h.symm)⟩
 ·next hB =>
  refine ⟨rfl,fun k B' hB'=>⟨B',hB',base k B' hB' (fun e => ?_)⟩⟩;subst e;rw [hB] at hB';cases hB'

theorem zem {ls:List LK} {i:Nat} {B:BR} (h:zx B=true) (p:Int) (v:VD) (hu:usedL ls (i:Int) p≠0):zdK ls noU i B (hearB B p v):=by
 have h0:=zjn h p v;unfold hearB at *
 split
 ·next ht =>
  have hp:0≤p:=by
   unfold zaW at ht;simp only [Bool.and_eq_true,decide_eq_true_eq] at ht;exact ht.2.1
  split
  ·next x hx =>
   split
   ·next hc =>
    rw [if_pos ht,hx] at h0;dsimp only at h0;rw [if_pos hc] at h0;refine ⟨rfl,h0,by simp [turned],fun q x' hx' => ?_⟩;have hy':(B.ports.set p.toNat ⟨x.up,x.k,true,v⟩)[q]?=some x':=hx';rw [List.getElem?_set] at hy'
    split at hy'
    ·next e =>
     subst e;have e2:(⟨x.up,x.k,true,v⟩:PT)=x':=by simpa [(List.getElem?_eq_some_iff.1 hx).1] using hy'
     subst e2;exact ⟨x,hx,rfl,fun _=>.inr (by rw [show ((p.toNat:Nat):Int)=p by omega]; exact hu)⟩
    ·exact ⟨x',hy',rfl,.inl⟩
   ·exact zcf h
  ·exact zcf h
 ·exact zcf h

theorem zgL {ls:List LK} {i:Nat} {B:BR} (h:zx B=true):zdK ls noU i B (tickB B):=by
 have h0:=zjI h;unfold tickB at *;rw [if_pos h] at *;exact ⟨rfl,h0,rfl,fun q x' hx'=>⟨x',hx',rfl,.inl⟩⟩

theorem zen {ls:List LK} {i:Nat} {B:BR} (h:zx B=true) (j:Nat) (up:Bool) (hj:j < B.ports.length):zdK ls (atU (i:Int) (j:Int) up) i B (linkB B (j:Int) up):=by
 have h0:=zhi h (j:Int) up;have ht:zaW B (j:Int)=true:=by
  unfold zaW;rw [h,decide_eq_true (show (0:Int)≤j by omega),decide_eq_true (show (j:Int)≤(B.ports.length:Int) - 1 by omega)]
  rfl
 unfold linkB at *;rw [if_pos ht,Int.toNat_natCast,List.getElem?_eq_getElem hj] at *;dsimp only at *;refine ⟨rfl,h0,by simp [turned],fun q x' hx' => ?_⟩;have hy':(B.ports.set j ⟨up,(B.ports[j]).k,false,⟨0,0,0,0,0⟩⟩)[q]?=some x':=hx';rw [List.getElem?_set] at hy'
 split at hy'
 ·next e =>
  subst e;have e2:(⟨up,(B.ports[j]).k,false,⟨0,0,0,0,0⟩⟩:PT)=x':=by simpa [hj] using hy'
  subst e2;exact ⟨_,List.getElem?_eq_getElem hj,by unfold atU; rw [if_pos ⟨rfl,rfl⟩]; rfl,fun e=>by cases e⟩
 ·next e =>
  refine ⟨x',hy', ?_,.inl⟩;unfold atU;rw [if_neg (fun hc=>e (by omega))]
  rfl

theorem zjR {B:BR} (h:zx B=true) (p:Int) (hp:0≤p∧p≤7):okVd (sayV B.id B.ports p)=true:=by
 have hid:=(zae h).2.1;have hid:1≤B.id∧B.id≤99:=by unfold in3 at hid; simpa using hid
 unfold okVd sayV okVc;simp only [Bool.and_eq_true,decide_eq_true_eq];cases hb:zW B.id B.ports with
 | none=>exact ⟨hid,⟨by simp [bestV],by simp [bestV]⟩,⟨by simp [bestV],by simp [bestV]⟩,hid,hp⟩
 | some fj =>
  obtain ⟨f,j⟩:=fj;obtain ⟨x,-,ho,rfl⟩:=zfj hb;obtain ⟨-,-,hs,-⟩:=zf4 ho;unfold zcX zbi at hs;simp only [Bool.and_eq_true,decide_eq_true_eq,okVc] at hs;simp only [bestV,stepV];omega

theorem zbu {bs:List BR} {b p:Int} {u:PT} (h:zaf bs b p=some u):∃(i j:Nat) (B:BR),b=(i:Int)∧p=(j:Int)∧bs[i]?=some B∧B.ports[j]?=some u:=by
 unfold zaf at h
 split at h
 ·next hb =>
  cases hB:bs[b.toNat]? with
  | none=>rw [hB] at h; cases h
  | some B =>
   rw [hB] at h;exact ⟨b.toNat,p.toNat,B,by omega,by omega,hB,h⟩
 ·cases h

theorem ziK {bs:List BR} {ls:List LK} {ss:List SY} (h:NetOk bs ls ss) (b:Int):∀k,k≤ls.length→zcr ls (sayTo bs ls b ss k)
 | 0,_=>h.2.2.2
 | k+1,hk=>by
  have ih:=ziK h b k (by omega)
  show zcr ls (za7 bs ls b (sayTo bs ls b ss k) k)
  unfold za7
  split
  ·next x hx =>
   split
   ·next hc =>
    obtain ⟨⟨hne,u,v,hu,hv,-⟩,-⟩:=h.2.1.2 x (List.mem_of_getElem? hx);obtain ⟨i,j,A,ea,ep,hA,hpA⟩:=zbu hu;obtain ⟨i2,j2,D,eb,eq,hD,hpD⟩:=zbu hv;have okA:=h.1.1 A (List.mem_of_getElem? hA);have okD:=h.1.1 D (List.mem_of_getElem? hD);have lA:=(zae okA).2.2.2.1;have lD:=(zae okD).2.2.2.1;have lA:(A.ports.length:Int)≤6:=by unfold in3 at lA; simp at lA; omega
    have lD:(D.ports.length:Int)≤6:=by unfold in3 at lD; simp at lD; omega
    have jA:=(List.getElem?_eq_some_iff.1 hpA).1;have jD:=(List.getElem?_eq_some_iff.1 hpD).1;have add:∀(back:Bool) (vv:VD),okVd vv=true→zcr ls (sayTo bs ls b ss k++[⟨(k:Int),back,vv⟩]):=fun back vv hvv=>by
     refine ⟨by rw [List.length_append]; simp; omega,fun s hs => ?_⟩;rcases List.mem_append.1 hs with h1 | h1
     ·exact ih.2 s h1
     ·simp at h1
      rw [h1];exact ⟨by simp; omega,hvv⟩
    split
    ·refine add _ _ ?_;unfold sayAt;rw [ea,Int.toNat_natCast,hA];exact zjR okA _ (by omega)
    ·split
     ·refine add _ _ ?_;unfold sayAt;rw [eb,Int.toNat_natCast,hD];exact zjR okD _ (by omega)
     ·exact ih
   ·exact ih
  ·exact ih

theorem zke {ls:List LK} {x:LK} (h:x∈ls):usedL ls x.a x.p≠0∧usedL ls x.b x.q≠0:=by
 unfold usedL;obtain ⟨h1,h2⟩:=zdc h;exact ⟨by have:=List.count_pos_iff.2 h1; omega,by have:=List.count_pos_iff.2 h2; omega⟩

theorem zcE {ls:List LK} (h:(endsL ls).Nodup) {x y:LK} (hx:x∈ls) (hy:y∈ls) (he:(y.a,y.p)=(x.a,x.p)∨(y.a,y.p)=(x.b,x.q)∨(y.b,y.q)=(x.a,x.p)∨(y.b,y.q)=(x.b,x.q)):y=x:=by
 induction ls with
 | nil=>cases hx
 | cons z l ih =>
  rw [zdb] at h;obtain ⟨h1,h2⟩:=List.nodup_cons.1 h;obtain ⟨h3,h4⟩:=List.nodup_cons.1 h2;rcases List.mem_cons.1 hx with ex | hx1 <;> rcases List.mem_cons.1 hy with ey | hy1
  ·rw [ex,ey]
  ·exfalso
   subst ex;obtain ⟨m1,m2⟩:=zdc hy1;rcases he with e | e | e | e
   ·exact h1 (List.mem_cons_of_mem _ (e▸m1))
   ·exact h3 (e▸m1)
   ·exact h1 (List.mem_cons_of_mem _ (e▸m2))
   ·exact h3 (e▸m2)
  ·exfalso
   subst ey;obtain ⟨m1,m2⟩:=zdc hx1;rcases he with e | e | e | e
   ·exact h1 (List.mem_cons_of_mem _ (e▸m1))
   ·exact h1 (List.mem_cons_of_mem _ (e▸m2))
   ·exact h3 (e▸m1)
   ·exact h3 (e▸m2)
  ·exact ih h4 hx1 hy1

theorem zhS {bs:List BR} {ls:List LK} {ss:List SY} (h:NetOk bs ls ss) (k:Nat) (up:Bool):NetOk (zbD bs ls k up) ls ss:=by
 unfold zbD
 split
 ·exact h
 ·split
  ·next x hx =>
   have hxm:=List.mem_of_getElem? hx;have hnd:=((zbQ bs ls).1 h.2.1).2.2;obtain ⟨⟨hne,u,v,hu,hv,-⟩,-⟩:=h.2.1.2 x hxm;obtain ⟨i,j,A,ea,ep,hA,hpA⟩:=zbu hu;obtain ⟨i2,j2,D,eb,eq,hD,hpD⟩:=zbu hv;have hij:i2≠i:=fun e=>hne (by rw [ea,eb,e])
   have k1:Kept ls (atU x.a x.p up) bs (atSet bs x.a.toNat (fun B=>linkB B x.p up)):=by
    rw [ea,ep,Int.toNat_natCast];refine zbK h.1.1 (fun m hm p=>by unfold atU; rw [if_neg (fun hc=>hm (by omega))]) (fun B hB => ?_);rw [hA] at hB;cases hB;exact zen (h.1.1 A (List.mem_of_getElem? hA)) j up (List.getElem?_eq_some_iff.1 hpA).1
   have ok1:∀B∈atSet bs x.a.toNat (fun B=>linkB B x.p up),zx B=true:=fun B hB=>by
    obtain ⟨m,hm,rfl⟩:=List.mem_iff_getElem.1 hB;obtain ⟨_,_,g⟩:=k1.at' m _ (List.getElem?_eq_getElem hm);exact g.ok
   have k2:Kept ls (atU x.b x.q up) (atSet bs x.a.toNat (fun B=>linkB B x.p up)) (atSet (atSet bs x.a.toNat (fun B=>linkB B x.p up)) x.b.toNat (fun B=>linkB B x.q up)):=by
    have hD2:(atSet bs x.a.toNat (fun B=>linkB B x.p up))[i2]?=some D:=by
     unfold atSet
     split
     ·rw [ea,Int.toNat_natCast,List.getElem?_set_ne (fun e=>hij e.symm)]; exact hD
     ·exact hD
    rw [eb,eq,Int.toNat_natCast];refine zbK ok1 (fun m hm p=>by unfold atU; rw [if_neg (fun hc=>hm (by omega))]) (fun B hB => ?_);rw [hD2] at hB;cases hB;exact zen (h.1.1 D (List.mem_of_getElem? hD)) j2 up (List.getElem?_eq_some_iff.1 hpD).1
   refine zdn (fun y hy => ?_) h (k1.trans k2) h.2.2.2;unfold orU atU;by_cases e:y=x
   ·rw [e]
    simp [hne]
   ·rw [if_neg (fun hc=>e (zcE hnd hxm hy (.inr (.inl (by rw [hc.1,hc.2]))))),if_neg (fun hc=>e (zcE hnd hxm hy (.inl (by rw [hc.1,hc.2])))),if_neg (fun hc=>e (zcE hnd hxm hy (.inr (.inr (.inr (by rw [hc.1,hc.2])))))),if_neg (fun hc=>e (zcE hnd hxm hy (.inr (.inr (.inl (by rw [hc.1,hc.2]))))))]
  ·exact h

theorem zhP {bs:List BR} {ls:List LK} {ss:List SY} (h:NetOk bs ls ss) (kd:Int) (k:Nat):NetOk (zc5 bs ls ss kd k) ls ss:=by
 unfold zc5
 split
 ·unfold zbn
  split
  ·unfold zeZ
   split
   ·next s hs hc x hx =>
    have hu:=zke (List.mem_of_getElem? hx);obtain ⟨⟨hne,u,v,hpu,hpv,-⟩,-⟩:=h.2.1.2 x (List.mem_of_getElem? hx);obtain ⟨i,j,A,ea,ep,hA,hpA⟩:=zbu hpu;obtain ⟨i2,j2,D,eb,eq,hD,hpD⟩:=zbu hpv
    split
    ·refine zdn (U:=noU) (fun _ _=>rfl) h (zbK h.1.1 (fun _ _ _=>rfl) (fun B hB => ?_)) h.2.2.2;exact zem (h.1.1 B (List.mem_of_getElem? hB)) _ _ (by rw [show ((x.a.toNat:Nat):Int)=x.a by omega]; exact hu.1)
    ·refine zdn (U:=noU) (fun _ _=>rfl) h (zbK h.1.1 (fun _ _ _=>rfl) (fun B hB => ?_)) h.2.2.2;exact zem (h.1.1 B (List.mem_of_getElem? hB)) _ _ (by rw [show ((x.b.toNat:Nat):Int)=x.b by omega]; exact hu.2)
   ·exact h
  ·exact h
 ·exact h

theorem zhZ {bs:List BR} {ls:List LK} {ss:List SY} (h:NetOk bs ls ss) (kd a:Int):NetOk (stepB bs ls ss kd a) ls (stepS bs ls ss kd a):=by
 have hS:zcr ls (stepS bs ls ss kd a):=by
  unfold stepS
  split
  ·exact ziK h a ls.length (Nat.le_refl _)
  ·split
   ·refine ⟨?_,fun s hs=>h.2.2.2.2 s ?_⟩
    ·have h1:=h.2.2.2.1;simp only [List.length_append,List.length_take,List.length_drop];omega
    ·rcases List.mem_append.1 hs with h1 | h1
     ·exact List.mem_of_mem_take h1
     ·exact List.mem_of_mem_drop h1
   ·exact h.2.2.2
 have hB:NetOk (stepB bs ls ss kd a) ls ss:=by
  unfold stepB
  split
  ·exact zdn (U:=noU) (fun _ _=>rfl) h (zbK h.1.1 (fun _ _ _=>rfl) (fun B hB=>zgL (h.1.1 B (List.mem_of_getElem? hB)))) h.2.2.2
  ·split
   ·exact zhP h kd a.toNat
   ·split
    ·exact zhS h a.toNat _
    ·exact h
 exact ⟨hB.1,hB.2.1,hB.2.2.1,hS⟩

theorem zd1 {a b:List BR × List LK × List SY} {kd i:Int} {q:Bool} (h:StepR a kd i b q) (ha:NetOk a.1 a.2.1 a.2.2):NetOk b.1 b.2.1 b.2.2:=by
 by_cases ht:zaB a.1 a.2.1 a.2.2 kd i
 ·obtain ⟨-,e1,e2⟩:=h.yes ha ht;rw [e1,h.l,e2];exact zhZ ha kd i
 ·obtain ⟨-,e1,e2⟩:=h.no (fun hc=>ht hc.2);rw [e1,h.l,e2];exact ha

theorem zis (s:Int):∀(n i:Nat),i < n→(idsTo s n)[i]?=some (1+(s+(i:Int)*3) % 7)
 | 0,i,h=>absurd h (Nat.not_lt_zero _)
 | n+1,i,h=>by
  rw [idsTo];by_cases e:i=n
  ·subst e;rw [List.getElem?_append_right (by rw [zbM]; exact Nat.le_refl _),zbM,Nat.sub_self]
   rfl
  ·rw [List.getElem?_append_left (by rw [zbM]; omega)];exact zis s n i (by omega)

theorem zkx {s:Int} {pp:Nat} {i:Nat} (hp:1≤pp∧pp≤6):zo (1+(s+(i:Int)*3) % 7) (pp:Int)=zac (1+(s+(i:Int)*3) % 7) pp:=by
 unfold zo;rw [if_pos (by simp; omega),Int.toNat_natCast]

theorem zje {s:Int} {nn pp:Nat} {ls:List LK} (hn:1≤nn∧nn≤6) (hp:1≤pp∧pp≤6) (h:zc0 nn pp ls):NetOk (newBs (idsTo s nn) (pp:Int)) ls []:=by
 have hlen:(newBs (idsTo s nn) (pp:Int)).length=nn:=by unfold newBs; rw [List.length_map,zbM]
 have hat:∀i:Nat,i < nn→(newBs (idsTo s nn) (pp:Int))[i]?=some (zac (1+(s+(i:Int)*3) % 7) pp):=fun i hi=>by rw [zcj (zis s nn i hi),zkx hp]
 have hport:∀b p:Int,0≤b∧b < (nn:Int)→0≤p∧p < (pp:Int)→zaf (newBs (idsTo s nn) (pp:Int)) b p=some newPt:=fun b p hb hq=>by
  unfold zaf;rw [if_pos ⟨hb.1,hq.1⟩,hat b.toNat (by omega)]
  show (List.replicate pp newPt)[p.toNat]?=some newPt
  rw [List.getElem?_replicate,if_pos (by omega)]
 refine ⟨⟨fun x hx => ?_,fun i j x y hij hx hy => ?_,by rw [hlen]; exact hn.1,by rw [hlen]; exact hn.2⟩,(zbQ _ _).2 ⟨h.len,fun x hx => ?_,h.nd⟩,fun i B hB p x hx hh => ?_,by simp,by intro s hs; cases hs⟩
 ·obtain ⟨i,hi,rfl⟩:=List.mem_iff_getElem.1 hx;rw [hlen] at hi
  have:=hat i hi
  rw [List.getElem?_eq_getElem (by rw [hlen]; exact hi)] at this;rw [Option.some.inj this];exact zft (by omega) hp
 ·have hj:j < nn:=by rw [← hlen]; exact (List.getElem?_eq_some_iff.1 hy).1
  rw [hat i (by omega)] at hx;rw [hat j hj] at hy;cases hx;cases hy
  show 1+(s+(i:Int)*3) % 7≠1+(s+(j:Int)*3) % 7
  omega
 ·obtain ⟨h1,h2,h3,h4,h5⟩:=h.at' x hx;exact ⟨h1,newPt,newPt,hport _ _ h2 h4,hport _ _ h3 h5,rfl⟩
 ·have hi:i < nn:=by rw [← hlen]; exact (List.getElem?_eq_some_iff.1 hB).1
  rw [hat i hi] at hB;cases hB;have hx:(List.replicate pp newPt)[p]?=some x:=hx;rw [List.getElem?_replicate] at hx
  split at hx
  ·cases hx;cases hh
  ·cases hx

def costB (B:BR) (p:Nat) (x:PT) (k:Int):BR:={ B with ports:=B.ports.set p { x with k:=k } }

theorem zgK {ls:List LK} {i:Nat} {B:BR} (h:zx B=true) {p:Nat} {x:PT} (hx:B.ports[p]?=some x) {k:Int} (hk:1≤k∧k≤1000):zdK ls noU i B (costB B p x k):=by
 have hp:ptOk { x with k:=k }=true:=by
  have h1:=zgT h hx;unfold ptOk at *;simp only [Bool.and_eq_true] at h1 ⊢;exact ⟨by simp; omega,h1.2⟩
 refine ⟨rfl,zfx h hp,by simp [costB],fun q x' hx' => ?_⟩;have hy':(B.ports.set p { x with k:=k })[q]?=some x':=hx';rw [List.getElem?_set] at hy'
 split at hy'
 ·next e =>
  subst e;have e2:({ x with k:=k }:PT)=x':=by simpa [(List.getElem?_eq_some_iff.1 hx).1] using hy'
  subst e2;exact ⟨x,hx,rfl,.inl⟩
 ·exact ⟨x',hy',rfl,.inl⟩

theorem zhK {bs:List BR} {ls:List LK} {ss:List SY} (h:NetOk bs ls ss) {i p:Nat} {B:BR} {x:PT} (hB:bs[i]?=some B) (hx:B.ports[p]?=some x) {k:Int} (hk:1≤k∧k≤1000):NetOk (bs.set i (costB B p x k)) ls ss:=by
 have e:bs.set i (costB B p x k)=atSet bs i (fun B=>costB B p x k):=by unfold atSet; rw [hB]
 rw [e];refine zdn (U:=noU) (fun _ _=>rfl) h (zbK h.1.1 (fun _ _ _=>rfl) (fun D hD => ?_)) h.2.2.2;rw [hB] at hD;cases hD;exact zgK (h.1.1 B (List.mem_of_getElem? hB)) hx hk

theorem NOwn.cost {w:World} {base:Nat} {M:NV} (h:NOwn w base M) {i p:Nat} {y:BV} {x:PT} (hy:M.bs[i]?=some y) (hx:y.B.ports[p]?=some x) {g:Nat} (hg:y.a=some ⟨g,0,none⟩) (k:Int) :
  NOwn (w.setCell ⟨g,p*8+1,none⟩ (.int .i64 k)) base { M with bs:=M.bs.set i { y with B:=costB y.B p x k } }:=by
 have hO:=h.b.item y (List.mem_of_getElem? hy);have hports:w.ownsRow base 67 8 (.slice (some ⟨g,0,none⟩) y.n y.c) y.n (ptF.all y.B.ports):=by rw [← hg]; exact hO.ports
 obtain ⟨pre,post,e1,e2,e3⟩:=zdv (y:={ y with B:=costB y.B p x k }) hy;obtain ⟨pr,po,f1,f2,f3⟩:=zdv (y:={ x with k:=k }) hx;have hgs:w.grownBy (w.setCell ⟨g,p*8+1,none⟩ (.int .i64 k)) (some g):=zn _ _;have hgs2:w.grownBy (w.setCell ⟨g,p*8+1,none⟩ (.int .i64 k)) (Value.slice (some ⟨g,0,none⟩) y.n y.c).ownBlock:=hgs;have hNew:(w.setCell ⟨g,p*8+1,none⟩ (.int .i64 k)).ownsRow base 67 8 (.slice (some ⟨g,0,none⟩) y.n y.c) y.n (ptF.all (y.B.ports.set p { x with k:=k })):=by
  rw [← f3];rw [f1] at hports;rw [f2];exact zO (F:=ptF) hports 1 (.int .i64 k) (by decide) rfl
 have hrow:(w.setCell ⟨g,p*8+1,none⟩ (.int .i64 k)).ownsRow base 63 11 (.slice M.ba M.bn M.bc) M.bn (brF.all M.bs):=zA h.b.row hports (by decide) hgs2;have hall:brF.all (M.bs.set i { y with B:=costB y.B p x k })=brF.all M.bs:=by
  rw [← e3]
  conv=>rhs; rw [e1]
  rw [brF.all_append,brF.all_append,brF.all_cons,brF.all_cons]
  rfl
 refine ⟨?_,zA h.l hports (by decide) hgs2,zA h.s hports (by decide) hgs2⟩
 show BOs _ base M.ba M.bn M.bc (M.bs.set i { y with B:=costB y.B p x k })
 have hb:=h.b;rw [e1] at hb;have hit:({ y with B:=costB y.B p x k }:BV).Own (w.setCell ⟨g,p*8+1,none⟩ (.int .i64 k)) base:=by
  refine ⟨?_,zA hO.f hports (by decide) hgs2,⟨zA hO.v.rows hports (by decide) hgs2,zA hO.v.own hports (by decide) hgs2,hO.v.i64⟩⟩
  show (w.setCell ⟨g,p*8+1,none⟩ (.int .i64 k)).ownsRow base 67 8 (.slice y.a y.n y.c) y.n (ptF.all (y.B.ports.set p { x with k:=k }))
  rw [hg];exact hNew
 have hO3:Only [g] w (w.setCell ⟨g,p*8+1,none⟩ (.int .i64 k)):=Only.set w g _ _;rw [← e3] at hall ⊢;refine hb.turn (bs:=[g]) (fun z hz b hb1 hb2=>zeR hb.apart z hz b hb1 hb2) hO3 (fun b hb'=>.inl ?_) (by rw [hall]; exact hrow) hit;rw [List.mem_singleton] at hb';rw [hb'];exact zci.2 (.inl (by rw [hg]; simp [blkL]))

structure NnSt (w wr:World) (X:Nat) (la:Option Addr) (ln lc:Nat) (l:List LK) (ba:Option Addr) (bn bc:Nat) (bs:List BV):Prop where
 box:wr.heap[X]?=some (.cells #[.slice ba bn bc,.slice la ln lc,.slice none 0 0] 31)
 res:wr.heap[w.heap.size]?=some (.cells #[.slice none 0 0,.slice none 0 0,.slice none 0 0] 31)
 b:BOs wr (w.heap.size+1) ba bn bc bs
 l:wr.ownsRow (w.heap.size+1) 44 4 (.slice la ln lc) ln (linkF.all l)
 below:Below w.heap.size w wr
 lt:w.heap.size < X

theorem NnSt.later {w wr:World} {X:Nat} {la:Option Addr} {ln lc:Nat} {l:List LK} {ba:Option Addr} {bn bc:Nat} {bs:List BV} (h:NnSt w wr X la ln lc l ba bn bc bs) {w':World} (hb:Below wr.heap.size wr w'):NnSt w w' X la ln lc l ba bn bc bs :=
 ⟨za h.box hb,za h.res hb,h.b.below hb,zh h.l hb,zc h.below hb,h.lt⟩

theorem NnSt.size {w wr:World} {X:Nat} {la:Option Addr} {ln lc:Nat} {l:List LK} {ba:Option Addr} {bn bc:Nat} {bs:List BV} (h:NnSt w wr X la ln lc l ba bn bc bs):w.heap.size+1≤wr.heap.size:=zaO h.res

theorem NnSt.rows {w wr:World} {X:Nat} {la:Option Addr} {ln lc:Nat} {l:List LK} {ba:Option Addr} {bn bc:Nat} {bs:List BV} (h:NnSt w wr X la ln lc l ba bn bc bs) {w':World} (hg:wr.grownBy w' (Value.slice ba bn bc).ownBlock):w'.heap[X]?=some (.cells #[.slice ba bn bc,.slice la ln lc,.slice none 0 0] 31)∧w'.heap[w.heap.size]?=some (.cells #[.slice none 0 0,.slice none 0 0,.slice none 0 0] 31)∧w'.ownsRow (w.heap.size+1) 44 4 (.slice la ln lc) ln (linkF.all l)∧Below w.heap.size w w' :=
 ⟨ze h.box hg (fun k hk=>zz h.b.row h.box (by decide) k hk),ze h.res hg (fun k hk=>zz h.b.row h.res (by decide) k hk),zA h.l h.b.row (by decide) hg,h.below.grown hg h.below.size (by intro k hk; have:=(h.b.row.lt k hk).1; omega)⟩

theorem NnSt.push {w wr:World} {X:Nat} {la:Option Addr} {ln lc:Nat} {l:List LK} {ba:Option Addr} {bn bc:Nat} {bs:List BV} (h:NnSt w wr X la ln lc l ba bn bc bs) {w1 w2:World} (hb:Below wr.heap.size wr w1) {y:BV} (hy:y.Own w1 wr.heap.size) (hg:w1.grownBy w2 (Value.slice ba bn bc).ownBlock) {ao':Option Addr} {cap':Nat} (hr:w2.ownsRow (w.heap.size+1) 63 11 (.slice ao' (bn+1) cap') (bn+1) (brF.all (bs++[y]))) :
  w2.heap[X]?=some (.cells #[.slice ba bn bc,.slice la ln lc,.slice none 0 0] 31)∧Below w.heap.size w w2∧NnSt w (w2.setCell ⟨X,0,none⟩ (.slice ao' (bn+1) cap')) X la ln lc l ao' (bn+1) cap' (bs++[y]):=by
 have hp:=h.b.push hb hy h.size hg hr;obtain ⟨h1,h2,h3,h4⟩:=(h.later hb).rows hg;have hgx:w2.grownBy (w2.setCell ⟨X,0,none⟩ (.slice ao' (bn+1) cap')) (some X):=zn 0 _;have hlt:=h.lt;refine ⟨h1,h4, ?_,ze h2 hgx (by intro k e; cases e; omega),hp.boxed h1 hgx,zt h3 hgx (zz h3 h1 (by decide)),h4.grown hgx h4.size (by intro k e; cases e; omega),hlt⟩
 have:=zE (j:=0) h1 (.slice ao' (bn+1) cap')
 simpa using this

theorem NnSt.put {w wr:World} {X:Nat} {la:Option Addr} {ln lc:Nat} {l:List LK} {g bn bc:Nat} {pre post:List BV} {x y:BV} (h:NnSt w wr X la ln lc l (some ⟨g,0,none⟩) bn bc (pre++x::post)) {w1 w2:World} (hb:Below wr.heap.size wr w1) (hy:y.Own w1 wr.heap.size) (hg:w1.grownBy w2 (some g)) (hr:w2.ownsRow (w.heap.size+1) 63 11 (.slice (some ⟨g,0,none⟩) bn bc) bn (brF.all (pre++y::post))) :
  NnSt w w2 X la ln lc l (some ⟨g,0,none⟩) bn bc (pre++y::post):=by
 have hp:=h.b.put hb hy h.size hg hr;obtain ⟨h1,h2,h3,h4⟩:=(h.later hb).rows (w':=w2) hg;exact ⟨h1,h2,hp,h3,h4,h.lt⟩

theorem NnSt.out {w wr:World} {X:Nat} {la:Option Addr} {ln lc:Nat} {l:List LK} {ba:Option Addr} {bn bc:Nat} {bs:List BV} (h:NnSt w wr X la ln lc l ba bn bc bs):zby (((wr.setCell ⟨w.heap.size,0,none⟩ (.slice ba bn bc)).setCell ⟨w.heap.size,1,none⟩ (.slice la ln lc)).setCell ⟨w.heap.size,2,none⟩ (.slice none 0 0)) w.heap.size ⟨ba,bn,bc,bs,la,ln,lc,l,none,0,0,[]⟩∧Below w.heap.size w (((wr.setCell ⟨w.heap.size,0,none⟩ (.slice ba bn bc)).setCell ⟨w.heap.size,1,none⟩ (.slice la ln lc)).setCell ⟨w.heap.size,2,none⟩ (.slice none 0 0)) :=
 ⟨((zby.apart (M:=⟨ba,bn,bc,bs,la,ln,lc,l,none,0,0,[]⟩) ⟨h.b,h.l,rfl,rfl,rfl,rfl⟩ (zL (zL (zn 0 _) (zn 1 _)) (zn 2 _)) (by omega)).lt (by omega)),zu (zu (zu h.below (Nat.le_refl _) 0 _) (Nat.le_refl _) 1 _) (Nat.le_refl _) 2 _⟩

structure NewIs (ids:List Int) (ports:Int) (l:List LK) (M:NV):Prop where
 yes:NetOk (newBs ids ports) l []→M.bs.map BV.B=upBs ids ports∧M.ls=l
 no:¬NetOk (newBs ids ports) l []→M.bs=[]∧M.ls=[]
def zh4 (ids:List Int) (ports:Int) (l:List LK) (w:World) (e:Ending) (w':World):Prop:=∃M:NV,e=.returned (.agg #[.slice M.ba M.bn M.bc,.slice M.la M.ln M.lc,.slice M.sa M.sn M.sc])∧zby w' w.heap.size M∧NewIs ids ports l M∧Below w.heap.size w w'

theorem zjt {ids:List Int} {ports:Int} {l:List LK} {w w':World} (h:¬NetOk (newBs ids ports) l []) (hb:Below w.heap.size w w'):zh4 ids ports l w (.returned (.agg #[.slice none 0 0,.slice none 0 0,.slice none 0 0])) w' :=
 ⟨⟨none,0,0,[],none,0,0,[],none,0,0,[]⟩,rfl,⟨zaR _ _,World.ownsRow_nil _ _ _ _,rfl,rfl,rfl,rfl⟩,⟨fun k=>absurd k h,fun _=>⟨rfl,rfl⟩⟩,hb⟩

abbrev q376:Oper:=⟨some 22,.load 28 (.tmp 21),28,"l13_net.go:64",#[⟨0,.data⟩],none⟩
abbrev q377:Oper:=⟨some 28,.call ⟨.value (.func 51),#[.tmp 26,.tmp 27],#[3,3]⟩,63,"l13_net.go:64",#[⟨5,.data⟩,⟨6,.data⟩],none⟩
abbrev q378:Oper:=⟨some 29,.buildSlice 28 1 #[(0,.tmp 28)],28,"l13_net.go:64",#[⟨7,.data⟩],none⟩
abbrev q379:Oper:=⟨some 30,.call ⟨.builtin .append,#[.tmp 22,.tmp 29],#[28,28]⟩,28,"l13_net.go:64",#[⟨1,.data⟩,⟨8,.data⟩,⟨7,.chain⟩],none⟩
abbrev q380:Oper:=⟨some 31,.fieldAddr 31 (.tmp 7) 0,0,"l13_net.go:64",#[⟨0,.phase⟩,⟨1,.phase⟩,⟨2,.phase⟩,⟨3,.phase⟩,⟨4,.phase⟩,⟨5,.phase⟩,⟨6,.phase⟩,⟨7,.phase⟩,⟨8,.phase⟩,⟨9,.phase⟩],none⟩
abbrev q381:Oper:=⟨none,.store 28 (.tmp 31) (.tmp 30),0,"l13_net.go:64",#[⟨10,.data⟩,⟨9,.data⟩,⟨9,.chain⟩,⟨0,.phase⟩,⟨1,.phase⟩,⟨2,.phase⟩,⟨3,.phase⟩,⟨4,.phase⟩,⟨5,.phase⟩,⟨6,.phase⟩,⟨7,.phase⟩,⟨8,.phase⟩,⟨9,.phase⟩],none⟩

theorem zdG {ids:List Int} {ports:Int} {k:Nat} {id:Int} (h:ids[k]?=some id):newBs (ids.take (k+1)) ports=newBs (ids.take k) ports++[zo id ports]:=by
 unfold newBs;rw [List.take_add_one,h,List.map_append]
 rfl

theorem ziS {ids:List Int} {ports:Int} {k:Nat} {id:Int} (h:ids[k]?=some id):upBs (ids.take (k+1)) ports=upBs (ids.take k) ports++[raised (zo id ports)]:=by
 unfold upBs;rw [List.take_add_one,h,List.map_append]
 rfl

theorem zey (ia:Option Addr) (im ic:Nat) (ids:List Int) (ports:Int) (la0:Option Addr) (ln lc0:Nat) (l:List LK) (w:World) (hI:IRow w ia im ic ids) (hL:GRow linkF w la0 ln lc0 l) (hs:ln≤1048576) (hm:im≤1048576) :
  Calls Tryz.prog 16 #[.slice ia im ic,.int .i64 ports,.slice la0 ln lc0] w fun e w'=>zh4 ids ports l w e w':=by
 have hIs:=hI.size;generalize hw1:w.alloc (Obj.cells #[.slice none 0 0,.slice none 0 0,.slice none 0 0] 31)=w1;generalize hw2:w1.alloc (Obj.cells #[] 44)=w2;have b01:=zb hw1;have b12:=zb hw2;have z1:w1.heap.size=w.heap.size+1:=by rw [← hw1]; simp
 have k2:=zk hw2;have b02:=zc b01 b12;have kJ:=za (zk hw1) b12;have on:w2.ownsRow (w.heap.size+1) 44 linkF.k (.slice (some ⟨w1.heap.size,0,none⟩) 0 0) 0 (linkF.all []):=by
  have:=zaK linkF w1 w2 44 w1.heap.size k2 (Nat.le_refl _)
  rw [z1] at this ⊢;exact this
 have hz2:w.heap.size+1≤w2.heap.size:=by rw [← z1]; exact b12.size
 clear z1;go_enter Tryz.func16,Tryz.ntmps16;go_wp2_with (at_builtin; refine zM (F:=linkF) _ rfl _ _ 25 44 rfl (w.heap.size+1) Tryz.underlying25 zaU rfl (by decide) _ 0 [] rfl on la0 ln lc0 l rfl (hL.below b02) (by omega) hz2 ?_)
 intro la lc w3 oL _ hg3 hb3
 try simp only [Nat.zero_add,List.nil_append] at oL
 try simp only [Nat.zero_add,List.nil_append]
 have kR3:=ze kJ hg3 (fun k hk=>by have:=(on.lt k hk).1; omega);have b03:Below w.heap.size w w3:=b02.trans (hb3.mono (by omega));clear hw1 hw2 b01 b12 k2 kJ on hz2 b02 hg3 hb3;go_wp2_with fail
 generalize hw4:w3.alloc (Obj.cells #[.slice none 0 0,.slice la ln lc,.slice none 0 0] 31)=w4;have b34:=zb hw4;have kX4:=zk hw4;have st0:NnSt w w4 w3.heap.size la ln lc l none 0 0 []:=⟨kX4,za kR3 b34,zaR _ _,zh oL b34,zc b03 b34,zaO kR3⟩;generalize hX:w3.heap.size=X at *;clear hw4 b34 kX4 kR3 b03 oL
 go_loopw [8] (fun i wr=>∃(k:Nat) (ba:Option Addr) (bc:Nat) (bs:List BV),k≤im∧i=.int .i64 k∧NnSt w wr X la ln lc l ba k bc bs∧bs.map BV.B=newBs (ids.take k) ports) (fun i _=>im - (intOf i).toNat)
 case atStart=>exact ⟨0,none,0,[],Nat.zero_le _,rfl,st0,by simp [newBs]⟩
 case round =>
  obtain ⟨k,ba,bc,bs,hk,rfl,st,hM⟩:=hrel;clear st0;by_cases hlt:k < im
  ·obtain ⟨id,ib,io,hid,rfl,ci⟩:=zgI hI k hlt;have i1:(0:Int)≤(k:Int):=by omega
   have i2:(k:Int) < (im:Int):=by omega
   have HI:=hide hid;have HM:=hide hM;have vv:Below wr.heap.size wr wr.drew:=zp (Below.refl _ _);have uu:Below w.heap.size w wr.drew:=zc st.below vv;have x0:=(zd (za st.box vv)).1;clear hid hM;(go_wp2_with fail);refine wp_region_held_drew (S:=(fun W=>W.cell? ⟨ib,io+k,none⟩=some (.int .i64 id))) (by kernel_rfl) ((uu.cell (zl ci)).trans ci) (fun hHeld => ?_);refine kK 0 ⟨some 21,.fieldAddr 31 (.tmp 7) 0,0,"l13_net.go:64",#[],none⟩ ?_;refine kK 2 ⟨some 23,.move (.tmp 0),24,"l13_net.go:64",#[],none⟩ ?_;refine kK 3 ⟨some 24,.move (.tmp 8),3,"l13_net.go:64",#[],none⟩ ?_;refine kK 4 ⟨some 25,.indexAddr 24 (.tmp 23) (.tmp 24),0,"l13_net.go:64",#[⟨2,.data⟩,⟨3,.data⟩],none⟩ ?_;refine kK 5 ⟨some 26,.load 3 (.tmp 25),3,"l13_net.go:64",#[⟨4,.data⟩],none⟩ ?_;refine kK 6 ⟨some 27,.move (.tmp 1),3,"l13_net.go:64",#[],none⟩ ?_;refine tR [1,7] ?_;refine AllReadyH.cons (o:=q376) rfl (fun K hK => ?_) ?_
   ·go_simp;refine hK.out _ _ ((uu.cell (zl ci)).trans ci) (fun hHeld => ?_);clear hK K;(try simp only [Act.put,lA,lB,lC]);refine kR 7 q377 (fun K hK => ?_);go_simp;refine (zez id ports _).mono ?_;rintro e wz ⟨a2,n2,c2,fa2,fn2,fc2,ra2,rn2,rc2,oa2,on2,oc2,rfl,ow2,hbz⟩;have ow2:=BrOwn.lt ow2 (base':=wr.heap.size) vv.size;have vv:=zc vv hbz;have uu:=zc st.below vv;have x0:=(zd (za st.box vv)).1;(go_wp2_with fail);refine hK.out _ _ ((uu.cell (zl ci)).trans ci) (fun hHeld => ?_);clear hK K;(try simp only [Act.put,lA,lB,lC]);refine kR 8 q378 (fun K hK => ?_);go_simp
    first
    | refine zy (K:=K _) (fun wx kY hbx => ?_)
    | refine zq (K:=K _) (fun wx kY hbx => ?_)
    have gz:=vv.size;have ow2:=BrOwn.below ow2 hbx;have vv:=zc vv hbx;have uu:=zc st.below vv;have x0:=(zd (za st.box vv)).1;clear hbx;refine hK.out _ _ ((uu.cell (zl ci)).trans ci) (fun hHeld => ?_);clear hK K;(try simp only [Act.put,lA,lB,lC]);refine kR 9 q379 (fun K hK => ?_);have gn1:GRow brF wx (some ⟨_,0,none⟩) 1 1 [(⟨a2,n2,c2,fa2,fn2,fc2,ra2,rn2,rc2,oa2,on2,oc2,(zo id ports)⟩:BV)]:=zB (F:=brF) (zaP brF (base:=0) (l:=[(⟨a2,n2,c2,fa2,fn2,fc2,ra2,rn2,rc2,oa2,on2,oc2,(zo id ports)⟩:BV)]) kY rfl (Nat.zero_le _) (by simp));have hoN:=st.b.below vv;refine zi (F:=brF) rfl _ _ 28 63 rfl (w.heap.size+1) Tryz.underlying28 zcN rfl (by decide) _ k bs rfl hoN.row _ 1 1 _ rfl gn1 (by omega) (Nat.le_trans st.size vv.size) ?_;intro aL cL wL how _ hgr hbL;obtain ⟨kX,uu,stN⟩:=st.push (y:=(⟨a2,n2,c2,fa2,fn2,fc2,ra2,rn2,rc2,oa2,on2,oc2,(zo id ports)⟩:BV)) vv ow2 hgr how;have x0:=(zd kX).1;have fz:=zf kX 0;refine hK.out _ _ ((uu.cell (zl ci)).trans ci) (fun hHeld => ?_);clear hK K;(try simp only [Act.put,lA,lB,lC]);refine kK 10 q380 ?_;refine kR 11 q381 (fun K hK => ?_);go_simp;have uu:=stN.below;refine hK.out _ _ ((uu.cell (zl ci)).trans ci) (fun hHeld => ?_);clear hK K;(try simp only [Act.put,lA,lB,lC]);refine wpAnyH_done (by kernel_rfl) ?_ _;have HST:=hide stN;clear hHeld how hgr hbL hoN kX uu x0 fz kY gn1 ow2 vv;go_wp2
    go_roundw
    case rel=>exact ⟨k+1,aL,cL,_,by omega,by go_num,HST.out,by rw [List.map_append,HM.out,zdG HI.out]; rfl⟩
    case measure=>simp [intOf]; omega
   refine AllReadyH.cons (o:=q377) rfl (fun K hK => ?_) ?_
   ·go_simp;refine (zez id ports _).mono ?_;rintro e wz ⟨a2,n2,c2,fa2,fn2,fc2,ra2,rn2,rc2,oa2,on2,oc2,rfl,ow2,hbz⟩;have ow2:=BrOwn.lt ow2 (base':=wr.heap.size) vv.size;have vv:=zc vv hbz;have uu:=zc st.below vv;have x0:=(zd (za st.box vv)).1;(go_wp2_with fail);refine hK.out _ _ ((uu.cell (zl ci)).trans ci) (fun hHeld => ?_);clear hK K;(try simp only [Act.put,lA,lB,lC]);refine tR [1,8] ?_;refine AllReadyH.cons (o:=q376) rfl (fun K hK => ?_) ?_
    ·go_simp;refine hK.out _ _ ((uu.cell (zl ci)).trans ci) (fun hHeld => ?_);clear hK K;(try simp only [Act.put,lA,lB,lC]);refine kR 8 q378 (fun K hK => ?_);go_simp
     first
     | refine zy (K:=K _) (fun wx kY hbx => ?_)
     | refine zq (K:=K _) (fun wx kY hbx => ?_)
     have gz:=vv.size;have ow2:=BrOwn.below ow2 hbx;have vv:=zc vv hbx;have uu:=zc st.below vv;have x0:=(zd (za st.box vv)).1;clear hbx;refine hK.out _ _ ((uu.cell (zl ci)).trans ci) (fun hHeld => ?_);clear hK K;(try simp only [Act.put,lA,lB,lC]);refine kR 9 q379 (fun K hK => ?_);have gn1:GRow brF wx (some ⟨_,0,none⟩) 1 1 [(⟨a2,n2,c2,fa2,fn2,fc2,ra2,rn2,rc2,oa2,on2,oc2,(zo id ports)⟩:BV)]:=zB (F:=brF) (zaP brF (base:=0) (l:=[(⟨a2,n2,c2,fa2,fn2,fc2,ra2,rn2,rc2,oa2,on2,oc2,(zo id ports)⟩:BV)]) kY rfl (Nat.zero_le _) (by simp));have hoN:=st.b.below vv;refine zi (F:=brF) rfl _ _ 28 63 rfl (w.heap.size+1) Tryz.underlying28 zcN rfl (by decide) _ k bs rfl hoN.row _ 1 1 _ rfl gn1 (by omega) (Nat.le_trans st.size vv.size) ?_;intro aL cL wL how _ hgr hbL;obtain ⟨kX,uu,stN⟩:=st.push (y:=(⟨a2,n2,c2,fa2,fn2,fc2,ra2,rn2,rc2,oa2,on2,oc2,(zo id ports)⟩:BV)) vv ow2 hgr how;have x0:=(zd kX).1;have fz:=zf kX 0;refine hK.out _ _ ((uu.cell (zl ci)).trans ci) (fun hHeld => ?_);clear hK K;(try simp only [Act.put,lA,lB,lC]);refine kK 10 q380 ?_;refine kR 11 q381 (fun K hK => ?_);go_simp;have uu:=stN.below;refine hK.out _ _ ((uu.cell (zl ci)).trans ci) (fun hHeld => ?_);clear hK K;(try simp only [Act.put,lA,lB,lC]);refine wpAnyH_done (by kernel_rfl) ?_ _;have HST:=hide stN;clear hHeld how hgr hbL hoN kX uu x0 fz kY gn1 ow2 vv;go_wp2
     go_roundw
     case rel=>exact ⟨k+1,aL,cL,_,by omega,by go_num,HST.out,by rw [List.map_append,HM.out,zdG HI.out]; rfl⟩
     case measure=>simp [intOf]; omega
    refine AllReadyH.cons (o:=q378) rfl (fun K hK => ?_) ?_
    ·go_simp
     first
     | refine zy (K:=K _) (fun wx kY hbx => ?_)
     | refine zq (K:=K _) (fun wx kY hbx => ?_)
     have gz:=vv.size;have ow2:=BrOwn.below ow2 hbx;have vv:=zc vv hbx;have uu:=zc st.below vv;have x0:=(zd (za st.box vv)).1;clear hbx;refine hK.out _ _ ((uu.cell (zl ci)).trans ci) (fun hHeld => ?_);clear hK K;(try simp only [Act.put,lA,lB,lC]);refine kR 1 q376 (fun K hK => ?_);go_simp;refine hK.out _ _ ((uu.cell (zl ci)).trans ci) (fun hHeld => ?_);clear hK K;(try simp only [Act.put,lA,lB,lC]);refine kR 9 q379 (fun K hK => ?_);have gn1:GRow brF wx (some ⟨_,0,none⟩) 1 1 [(⟨a2,n2,c2,fa2,fn2,fc2,ra2,rn2,rc2,oa2,on2,oc2,(zo id ports)⟩:BV)]:=zB (F:=brF) (zaP brF (base:=0) (l:=[(⟨a2,n2,c2,fa2,fn2,fc2,ra2,rn2,rc2,oa2,on2,oc2,(zo id ports)⟩:BV)]) kY rfl (Nat.zero_le _) (by simp));have hoN:=st.b.below vv;refine zi (F:=brF) rfl _ _ 28 63 rfl (w.heap.size+1) Tryz.underlying28 zcN rfl (by decide) _ k bs rfl hoN.row _ 1 1 _ rfl gn1 (by omega) (Nat.le_trans st.size vv.size) ?_;intro aL cL wL how _ hgr hbL;obtain ⟨kX,uu,stN⟩:=st.push (y:=(⟨a2,n2,c2,fa2,fn2,fc2,ra2,rn2,rc2,oa2,on2,oc2,(zo id ports)⟩:BV)) vv ow2 hgr how;have x0:=(zd kX).1;have fz:=zf kX 0;refine hK.out _ _ ((uu.cell (zl ci)).trans ci) (fun hHeld => ?_);clear hK K;(try simp only [Act.put,lA,lB,lC]);refine kK 10 q380 ?_;refine kR 11 q381 (fun K hK => ?_);go_simp;have uu:=stN.below;refine hK.out _ _ ((uu.cell (zl ci)).trans ci) (fun hHeld => ?_);clear hK K;(try simp only [Act.put,lA,lB,lC]);refine wpAnyH_done (by kernel_rfl) ?_ _;have HST:=hide stN;clear hHeld how hgr hbL hoN kX uu x0 fz kY gn1 ow2 vv;go_wp2
     go_roundw
     case rel=>exact ⟨k+1,aL,cL,_,by omega,by go_num,HST.out,by rw [List.map_append,HM.out,zdG HI.out]; rfl⟩
     case measure=>simp [intOf]; omega
    exact AllReadyH.nil
   exact AllReadyH.nil
  ·have hkn:k=im:=by omega
   rw [List.take_of_length_le (by omega)] at hM;subst hkn;obtain ⟨x0,x1,x2⟩:=zd st.box;have hN:zax wr ⟨ba,k,bc,bs,la,ln,lc,l,none,0,0,[]⟩:=⟨st.b.grow,fun x hx=>(st.b.item x hx).row,zB (F:=linkF) st.l,zdj _ _⟩;(go_wp2_with fail);refine (zdz ⟨ba,k,bc,bs,la,ln,lc,l,none,0,0,[]⟩ _ hN (show ln≤16777216 by omega)).mono ?_;rintro e w6 ⟨q,rfl,hq,hb6⟩;have hq2:q=true↔NetOk (newBs ids ports) l []:=by rw [← hM]; exact hq
   clear hq;have st:=st.later hb6;clear x0 x1 x2 hN hb6;cases q
   ·have hno:¬NetOk (newBs ids ports) l []:=fun h=>by have:=hq2.2 h; cases this
    have HNO:=hide hno;clear hq2 hno;obtain ⟨r0,r1,r2⟩:=zd st.res;have f0:=zf st.res 0;have f1:=zf st.res 1;have f2:=zf st.res 2;have HB:=hide (zu (zu (zu st.below (Nat.le_refl _) 0 (.slice none 0 0)) (Nat.le_refl _) 1 (.slice none 0 0)) (Nat.le_refl _) 2 (.slice none 0 0));go_wp2
    all_goals first | (exfalso; rename_i hf; first | (rw [f0] at hf; cases hf) | (rw [f1] at hf; cases hf) | (rw [f2] at hf; cases hf)) | skip
    exact bodyPost_ret (v:=.agg #[.slice none 0 0,.slice none 0 0,.slice none 0 0]) (by simp [results,Tryz.results16,go_sem, *]) rfl (zjt HNO.out HB.out)
   ·have hyes:=hq2.1 rfl;clear hq2;have HYES:=hide hyes;have hlen:bs.length=k:=st.b.grow.size;have hbz:∀(i:Nat) (x:BV),bs[i]?=some x→∃id,ids[i]?=some id∧x.B=zo id ports:=fun i x hx=>by
     have:(newBs ids ports)[i]?=some x.B:=by rw [← hM,List.getElem?_map,hx]; rfl
     exact zcK this
    have hkpos:0 < k:=by
     have:=hyes.1.2.2.1
     rw [← hM] at this
     simp at this
     omega
    obtain ⟨m,hpm⟩:∃m:Nat,ports=(m:Int):=by
     obtain ⟨x,hx⟩:∃x,bs[0]?=some x:=⟨_,List.getElem?_eq_getElem (by omega)⟩;obtain ⟨id,hid,hB⟩:=hbz 0 x hx;exact ⟨_,(zaM id ports).2.2.2.2.2 (hyes.1.1 _ (List.mem_of_getElem? (zcj hid)))⟩
    subst hpm;have hpl:∀id,ids.contains id=true→(zo id (m:Int)).ports.length=m:=fun id hid=>by
     have hmem:id∈ids:=by simpa using hid
     obtain ⟨i,hi⟩:=List.getElem?_of_mem hmem
     have:=(zaM id (m:Int)).2.2.2.2.2 (hyes.1.1 _ (List.mem_of_getElem? (zcj hi)))
     omega
    have hm6:m≤6:=by
     obtain ⟨x,hx⟩:∃x,bs[0]?=some x:=⟨_,List.getElem?_eq_getElem (by omega)⟩;obtain ⟨id,hid,hB⟩:=hbz 0 x hx;have h1:=hpl id (by simpa using List.mem_of_getElem? hid);have h2:=(zct id (m:Int)).2.1;omega
    obtain ⟨g,off,hba,hoff⟩:∃g off,ba=some ⟨g,off,none⟩∧off=0:=by
     rcases st.b.row.2 with ⟨e,h0⟩ | ⟨g,cap',cur,e,_⟩
     ·omega
     ·cases e; exact ⟨g,0,rfl,rfl⟩
    subst hoff hba;have HPL:=hide hpl;have HM:=hide hM;have HLEN:=hide hlen;have HIS:=hide hIs;have HKP:=hide hkpos;clear hM hlen hIs hkpos hlt hk;have HBZ:=hide hbz;obtain ⟨x0,x1,x2⟩:=zd st.box;clear hyes hbz hpl;(go_wp2_with fail);clear x0 x1 x2
    go_loopw [9] (fun i wr=>∃(j:Nat) (cs:List BV),j≤k∧i=.int .i64 j∧NnSt w wr X la ln lc l (some ⟨g,0,none⟩) k bc cs∧cs.map BV.B=upBs (ids.take j) (m:Int)++(bs.drop j).map BV.B) (fun i _=>k - (intOf i).toNat)
    case atStart=>exact ⟨0,bs,Nat.zero_le _,rfl,st,by simp [upBs]⟩
    case round =>
     obtain ⟨j,cs,hj,rfl,st,hC⟩:=hrel;have hcl:cs.length=k:=st.b.grow.size;have hlen:=HLEN.out;have hIs:=HIS.out;obtain ⟨x0,x1,x2⟩:=zd st.box;by_cases hlt:j < k
     ·obtain ⟨y,hy⟩:∃y,bs[j]?=some y:=⟨_,List.getElem?_eq_getElem (by omega)⟩;obtain ⟨id,hid,hB⟩:=HBZ.out j y hy;have hul:(upBs (ids.take j) (m:Int)).length=j:=by simp [upBs]; omega
      have hdr:bs.drop j=y::bs.drop (j+1):=by
       obtain ⟨h,rfl⟩:=List.getElem?_eq_some_iff.1 hy;exact List.drop_eq_getElem_cons h
      rw [hdr,List.map_cons,hB] at hC;obtain ⟨x,hx⟩:∃x,cs[j]?=some x:=⟨_,List.getElem?_eq_getElem (by omega)⟩;have hsp:cs=cs.take j++x::cs.drop (j+1):=by
       obtain ⟨h,rfl⟩:=List.getElem?_eq_some_iff.1 hx;rw [← List.drop_eq_getElem_cons h,List.take_append_drop]
      have hpre:(cs.take j).map BV.B=upBs (ids.take j) (m:Int):=by
       have:=congrArg (List.take j) hC
       rw [← List.map_take,List.take_left' hul] at this;exact this
      have hxB:x.B=zo id (m:Int):=by
       have h1:(cs.map BV.B)[j]?=some x.B:=by rw [List.getElem?_map,hx]; rfl
       rw [hC,List.getElem?_append_right (by omega),hul,Nat.sub_self] at h1;exact (Option.some.inj h1).symm
      have hpost:(cs.drop (j+1)).map BV.B=(bs.drop (j+1)).map BV.B:=by
       have:=congrArg (List.drop (j+1)) hC
       rw [← List.map_drop] at this;have hd0:List.drop (j+1) (upBs (ids.take j) (m:Int))=[]:=List.drop_eq_nil_of_le (by omega);rw [this,List.drop_append,hd0,List.nil_append,hul,show j+1 - j=1 by omega]
       rfl
      have hpm:=HPL.out id (by simpa using List.mem_of_getElem? hid);have HPL2:Hid ((cs.take j).length=j):=hide (by rw [List.length_take]; omega);have HPRE:=hide hpre;have HPOST:=hide hpost;have HID:=hide hid;have HPM:=hide hpm;rw [hsp] at st;generalize hpr:cs.take j=pre at *;generalize hpo:cs.drop (j+1)=post at *;clear hy hid hB hdr hC hx hsp hpre hpost hpm hcl hpr hpo hul hlen hIs;(go_wp2_with fail);clear x0 x1 x2
      go_loopw [10] (fun i wr=>∃(p:Nat) (x:BV),p≤m∧i=.int .i64 p∧x.B=zaS (zo id (m:Int)) p∧NnSt w wr X la ln lc l (some ⟨g,0,none⟩) k bc (pre++x::post)) (fun i _=>m - (intOf i).toNat)
      case atStart=>exact ⟨0,x,Nat.zero_le _,rfl,hxB,st⟩
      case round =>
       clear st hxB x;obtain ⟨p,x,hp,rfl,hxB,st⟩:=hrel;by_cases hpm:p < m
       ·have HAT:Hid ((pre++x::post)[j]?=some x):=hide (by rw [List.getElem?_append_right (by have:=HPL2.out; omega),HPL2.out,Nat.sub_self]; rfl);have hx:=st.b.item x (by simp);have HSM:Hid (x.n≤1048576∧x.fn≤1048576∧x.rn≤1048576∧x.on≤1048576):=hide (by
         have e1:=hx.row.ports.size;have e2:=hx.row.f.size;have e3:=hx.row.v.rows.size;have e4:=hx.row.v.own.size;have l1:=zdO (zo id (m:Int)) p;have l2:=zct id (m:Int);rw [hxB] at e1 e2 e3 e4;obtain ⟨l3,l4,l5⟩:=l1;rw [l5] at e3 e4;omega)
        have HXB:Hid (linkB x.B (p:Int) true=zaS (zo id (m:Int)) (p+1)):=hide (by rw [hxB]; rfl);have i1:(0:Int)≤(j:Int):=by omega
        have i2:(j:Int) < (k:Int):=by omega
        have i3:(p:Int) < (m:Int):=by omega
        have vv:Below wr.heap.size wr wr.drew:=zp (Below.refl _ _);have kX:=za st.box vv;obtain ⟨⟨ca0,ca1,ca2,ca3,ca4,ca5,ca6,ca7,ca8,ca9,ca10⟩,-⟩:=zU (st.b.below vv).row HAT.out;clear hxB;(go_wp2_with fail);refine wp_region_held_drew (S:=(fun W=>W.cell? ⟨X,0,none⟩=some (.slice (some ⟨g,0,none⟩) k bc)∧W.cell? ⟨X,1,none⟩=some (.slice la ln lc)∧W.cell? ⟨X,2,none⟩=some (.slice none 0 0))) (by kernel_rfl) (zd kX) (fun hHeld => ?_);refine kK 0 ⟨some 48,.fieldAddr 31 (.tmp 7) 0,0,"l13_net.go:71",#[],none⟩ ?_;refine kK 1 ⟨some 49,.load 28 (.tmp 48),28,"l13_net.go:71",#[⟨0,.data⟩],none⟩ ?_;refine kK 2 ⟨some 50,.move (.tmp 9),3,"l13_net.go:71",#[],none⟩ ?_;refine kK 3 ⟨some 51,.fieldAddr 31 (.tmp 7) 0,0,"l13_net.go:71",#[],none⟩ ?_;refine kK 4 ⟨some 52,.load 28 (.tmp 51),28,"l13_net.go:71",#[⟨3,.data⟩],none⟩ ?_;refine kK 5 ⟨some 53,.move (.tmp 9),3,"l13_net.go:71",#[],none⟩ ?_;refine kK 6 ⟨some 54,.indexAddr 28 (.tmp 52) (.tmp 53),0,"l13_net.go:71",#[⟨4,.data⟩,⟨5,.data⟩],none⟩ ?_;refine kK 8 ⟨some 56,.move (.tmp 10),3,"l13_net.go:71",#[],none⟩ ?_;refine kR 7 ⟨some 55,.load 63 (.tmp 54),63,"l13_net.go:71",#[⟨6,.data⟩],none⟩ (fun K hK => ?_);go_simp;refine hK.out _ _ (zd kX) (fun hHeld => ?_);clear hK K;(try simp only [Act.put,lA,lB,lC]);refine kR 9 ⟨some 57,.call ⟨.value (.func 52),#[.tmp 55,.tmp 56,.const (.bool true)],#[63,3,4]⟩,63,"l13_net.go:71",#[⟨7,.data⟩,⟨8,.data⟩],none⟩ (fun K hK => ?_);go_simp;refine (zcm x.a x.n x.c x.fa x.fn x.fc x.ra x.rn x.rc x.oa x.on x.oc x.B (p:Int) true _ ((hx.row).below vv) HSM.out.1 HSM.out.2.1 HSM.out.2.2.1 HSM.out.2.2.2).mono ?_;rintro e wz ⟨a2,n2,c2,fa2,fn2,fc2,ra2,rn2,rc2,oa2,on2,oc2,rfl,ow2,hbz⟩;have ow2:=BrOwn.lt ow2 (base':=wr.heap.size) vv.size;have vv:=zc vv hbz;have kX:=za st.box vv;have hrow:=(st.b.below vv).row;obtain ⟨⟨t0,t1,t2,t3,t4,t5,t6,t7,t8,t9,t10⟩,f0,f1,f2,f3,f4,f5,f6,f7,f8,f9,f10⟩:=zU hrow HAT.out;(go_wp2_with fail);refine hK.out _ _ (zd kX) (fun hHeld => ?_);clear hK K;(try simp only [Act.put,lA,lB,lC]);refine kK 10 ⟨some 58,.indexAddr 28 (.tmp 49) (.tmp 50),0,"l13_net.go:71",#[⟨1,.data⟩,⟨2,.data⟩,⟨0,.phase⟩,⟨1,.phase⟩,⟨2,.phase⟩,⟨3,.phase⟩,⟨4,.phase⟩,⟨5,.phase⟩,⟨6,.phase⟩,⟨7,.phase⟩,⟨8,.phase⟩,⟨9,.phase⟩],none⟩ ?_;refine kR 11 ⟨none,.store 63 (.tmp 58) (.tmp 57),0,"l13_net.go:71",#[⟨10,.data⟩,⟨9,.data⟩,⟨9,.chain⟩,⟨0,.phase⟩,⟨1,.phase⟩,⟨2,.phase⟩,⟨3,.phase⟩,⟨4,.phase⟩,⟨5,.phase⟩,⟨6,.phase⟩,⟨7,.phase⟩,⟨8,.phase⟩,⟨9,.phase⟩],none⟩ (fun K hK => ?_);go_simp;refine zaN (⟨a2,n2,c2,fa2,fn2,fc2,ra2,rn2,rc2,oa2,on2,oc2,(linkB x.B (p:Int) true)⟩:BV) HPL2.out (K:=K _) hrow (fun wq hq hgq => ?_);have stN:=st.put (y:=(⟨a2,n2,c2,fa2,fn2,fc2,ra2,rn2,rc2,oa2,on2,oc2,(linkB x.B (p:Int) true)⟩:BV)) vv ow2 hgq hq;have kX:=stN.box;refine hK.out _ _ (zd kX) (fun hHeld => ?_);clear hK K;(try simp only [Act.put,lA,lB,lC]);refine wpAnyH_done (by kernel_rfl) ?_ _;have HST:=hide stN;clear hHeld kX hq hgq hrow ow2 vv;go_wp2
        go_roundw
        case rel=>exact ⟨p+1,_,by omega,by go_num,HXB.out,HST.out⟩
        case measure=>simp [intOf]; omega
       ·have hpx:p=m:=by omega
        have HC:Hid ((pre++x::post).map BV.B=upBs (ids.take (j+1)) (m:Int)++(bs.drop (j+1)).map BV.B):=hide (by
         rw [List.map_append,List.map_cons,HPRE.out,HPOST.out,hxB,ziS HID.out,List.append_assoc]
         have:zaS (zo id (m:Int)) p=raised (zo id (m:Int)):=by unfold raised; rw [HPM.out,hpx]
         rw [this]
         rfl)
        have HST:=hide st;clear st hxB;go_wp2
        go_roundw
        case rel=>exact ⟨j+1,_,by omega,by go_num,HST.out,HC.out⟩
        case measure=>simp [intOf]; omega
     ·have hjk:j=k:=by omega
      have hup:cs.map BV.B=upBs ids (m:Int):=by
       rw [hC,List.drop_eq_nil_of_le (by omega),List.take_of_length_le (by omega)]
       simp
      have HUP:=hide hup;obtain ⟨r0,r1,r2⟩:=zd st.res;have f0:=zf st.res 0;have f1:=zf st.res 1;have f2:=zf st.res 2;have ne1:¬w.heap.size=X:=by have:=st.lt; omega
      have ne2:¬X=w.heap.size:=by have:=st.lt; omega
      have HO:=hide st.out.1;have HB:=hide st.out.2;clear hup hC st hlen hIs hcl hjk;go_wp2
      all_goals first | (exfalso; rename_i hf; first | (rw [f0] at hf; cases hf) | (rw [f1] at hf; cases hf) | (rw [f2] at hf; cases hf)) | skip
      exact bodyPost_ret (v:=.agg #[.slice (some ⟨g,0,none⟩) k bc,.slice la ln lc,.slice none 0 0]) (by simp [results,Tryz.results16,go_sem, *]) rfl (show zh4 ids (m:Int) l w _ _ from ⟨⟨some ⟨g,0,none⟩,k,bc,cs,la,ln,lc,l,none,0,0,[]⟩,rfl,HO.out,⟨fun _=>⟨HUP.out,rfl⟩,fun h=>absurd HYES.out h⟩,HB.out⟩)

end Go.Proofs.YtkoekkjfcaiagaaGreat
