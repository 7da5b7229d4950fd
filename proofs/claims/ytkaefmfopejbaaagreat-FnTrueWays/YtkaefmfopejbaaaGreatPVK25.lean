/-
  Packed: NetKeep SetNet HopI WayNext.
-/
import Derived.Test.YtkaefmfopejbaaaGreatPVK24
namespace Go.Proofs.YtkaefmfopejbaaaGreat
set_option maxRecDepth 100000
set_option maxHeartbeats 16000000
open Go.RowKit

structure zcU (ls:List LK) (U:Int→Int→Option Bool) (k:Nat) (B B':BR):Prop where
 id:B'.id=B.id
 ok:zx B'=true
 len:B'.ports.length=B.ports.length
 port:∀(p:Nat) (x':PT),B'.ports[p]? = some x'→∃x,B.ports[p]? = some x∧x'.up=(U (k:Int) (p:Int)).getD x.up∧(x'.has=true→x.has=true∨usedL ls (k:Int) (p:Int)≠0)
structure Kept (ls:List LK) (U:Int→Int→Option Bool) (bs bs':List BR):Prop where
 len:bs'.length=bs.length
 at':∀(k:Nat) (B':BR),bs'[k]? = some B'→∃B,bs[k]? = some B∧zcU ls U k B B'

def noU:Int→Int→Option Bool:=fun _ _=>none
def atU (a p:Int) (up:Bool):Int→Int→Option Bool:=fun b q=>if b=a∧q=p then some up else none
def orU (U V:Int→Int→Option Bool):Int→Int→Option Bool:=fun b q=>(V b q).orElse (fun _=>U b q)

theorem zby {ls:List LK} {k:Nat} {B:BR} (h:zx B=true):zcU ls noU k B B:=⟨rfl,h,rfl,fun _ x' hx=>⟨x',hx,rfl,.inl⟩⟩
theorem zjj {ls:List LK} {bs:List BR} (h:∀B∈bs,zx B=true):Kept ls noU bs bs:=⟨rfl,fun _ B hB=>⟨B,hB,zby (h B (List.mem_of_getElem? hB))⟩⟩
theorem Kept.trans {ls:List LK} {U V:Int→Int→Option Bool} {a b c:List BR} (h:Kept ls U a b) (g:Kept ls V b c):Kept ls (orU U V) a c where
 len:=g.len.trans h.len
 at':=fun k B'' h2=>by
  obtain ⟨B',h1,g1⟩:=g.at' k B'' h2;obtain ⟨B,h0,g0⟩:=h.at' k B' h1;refine ⟨B,h0,g1.id.trans g0.id,g1.ok,g1.len.trans g0.len,fun p x'' hx'' => ?_⟩;obtain ⟨x',hx',e1,u1⟩:=g1.port p x'' hx'';obtain ⟨x,hx,e0,u0⟩:=g0.port p x' hx';refine ⟨x,hx, ?_,fun hh=>(u1 hh).elim u0 .inr⟩;rw [e1,e0];unfold orU;cases V (k:Int) (p:Int) <;> rfl
theorem orU_no:orU noU noU=noU:=rfl

theorem zeW {ls:List LK} {U:Int→Int→Option Bool} {bs bs':List BR} (h:Kept ls U bs bs') {b p:Int} {u:PT} (hu:zM bs b p=some u):∃u',zM bs' b p=some u'∧u'.up=(U b p).getD u.up:=by
 unfold zM at hu
 split at hu
 ·next hb =>
  cases hB:bs[b.toNat]? with
  | none=>rw [hB] at hu; cases hu
  | some B =>
   rw [hB] at hu;have hu:B.ports[p.toNat]? = some u:=hu;have hk:b.toNat < bs'.length:=by rw [h.len]; exact (List.getElem?_eq_some_iff.1 hB).1
   obtain ⟨B0,hB0,g⟩:=h.at' b.toNat _ (List.getElem?_eq_getElem hk);rw [hB] at hB0;cases hB0;have hp:p.toNat < (bs'[b.toNat]).ports.length:=by rw [g.len]; exact (List.getElem?_eq_some_iff.1 hu).1
   obtain ⟨x,hx,e,-⟩:=g.port p.toNat _ (List.getElem?_eq_getElem hp);rw [hu] at hx;cases hx;refine ⟨(bs'[b.toNat]).ports[p.toNat], ?_, ?_⟩;rotate_left
   ·rw [show ((b.toNat:Nat):Int)=b by omega,show ((p.toNat:Nat):Int)=p by omega] at e;exact e
   ·unfold zM;rw [if_pos hb,List.getElem?_eq_getElem hk];exact List.getElem?_eq_getElem hp
 ·cases hu

theorem zct {ls:List LK} {U:Int→Int→Option Bool} {bs bs':List BR} {ss ss':List SY} (hU:∀y∈ls,U y.a y.p=U y.b y.q) (h:NetOk bs ls ss) (hk:Kept ls U bs bs') (hs:zdS ls ss'):NetOk bs' ls ss':=by
 obtain ⟨⟨h1,h2,h3,h4⟩,⟨l1,l2⟩,q,-⟩:=h;refine ⟨⟨fun x hx => ?_,fun i j x y hij hx hy => ?_,by rw [hk.len]; exact h3,by rw [hk.len]; exact h4⟩,⟨l1,fun x hx => ?_⟩,fun i B' hB' p x' hx' hh => ?_,hs⟩
 ·obtain ⟨k,hk2,rfl⟩:=List.mem_iff_getElem.1 hx;obtain ⟨B,-,g⟩:=hk.at' k _ (List.getElem?_eq_getElem hk2);exact g.ok
 ·obtain ⟨B,hB,g⟩:=hk.at' i x hx;obtain ⟨D,hD,g'⟩:=hk.at' j y hy;rw [g.id,g'.id];exact h2 i j B D hij hB hD
 ·obtain ⟨⟨hne,u,v,hu,hv,huv⟩,hc⟩:=l2 x hx;obtain ⟨u',hu',eu⟩:=zeW hk hu;obtain ⟨v',hv',ev⟩:=zeW hk hv;exact ⟨⟨hne,u',v',hu',hv',by rw [eu,ev,hU x hx,huv]⟩,hc⟩
 ·obtain ⟨B,hB,g⟩:=hk.at' i B' hB';obtain ⟨x,hx,-,hu⟩:=g.port p x' hx';rcases hu hh with h5 | h5
  ·exact q i B hB p x hx h5
  ·exact h5

theorem za5 {ls:List LK} {U:Int→Int→Option Bool} {bs:List BR} (h:∀B∈bs,zx B=true) {i:Nat} {f:BR→BR} (hn:∀k:Nat,k≠i→∀p,U (k:Int) p=none) (hf:∀B,bs[i]? = some B→zcU ls U i B (f B)):Kept ls U bs (atSet bs i f):=by
 have base:∀(k:Nat) (B:BR),bs[k]? = some B→k≠i→zcU ls U k B B:=fun k B hB hk=>⟨rfl,h B (List.mem_of_getElem? hB),rfl,fun p x hx=>⟨x,hx,by rw [hn k hk]; rfl,.inl⟩⟩
 unfold atSet
 split
 ·next B hB =>
  refine ⟨by simp,fun k B' hB' => ?_⟩;rw [List.getElem?_set] at hB'
  split at hB'
  ·next e =>
   subst e
   split at hB'
   ·cases hB';exact ⟨B,hB,hf B hB⟩
   ·cases hB'
  ·next e=>exact ⟨B',hB',base k B' hB' (fun h=>e h.symm)⟩
 ·next hB =>
  refine ⟨rfl,fun k B' hB'=>⟨B',hB',base k B' hB' (fun e => ?_)⟩⟩;subst e;rw [hB] at hB';cases hB'

theorem zdp {ls:List LK} {i:Nat} {B:BR} (h:zx B=true) (p:Int) (v:VD) (hu:usedL ls (i:Int) p≠0):zcU ls noU i B (hearB B p v):=by
 have h0:=zhZ h p v;unfold hearB at *
 split
 ·next ht =>
  have hp:0≤p:=by
   unfold zaS at ht;simp only [Bool.and_eq_true,decide_eq_true_eq] at ht;exact ht.2.1
  split
  ·next x hx =>
   split
   ·next hc =>
    rw [if_pos ht,hx] at h0;dsimp only at h0;rw [if_pos hc] at h0;refine ⟨rfl,h0,by simp [turned],fun q x' hx' => ?_⟩;have hy':(B.ports.set p.toNat ⟨x.up,x.k,true,v⟩)[q]? = some x':=hx';rw [List.getElem?_set] at hy'
    split at hy'
    ·next e =>
     subst e;have e2:(⟨x.up,x.k,true,v⟩:PT)=x':=by simpa [(List.getElem?_eq_some_iff.1 hx).1] using hy'
     subst e2;exact ⟨x,hx,rfl,fun _=>.inr (by rw [show ((p.toNat:Nat):Int)=p by omega]; exact hu)⟩
    ·exact ⟨x',hy',rfl,.inl⟩
   ·exact zby h
  ·exact zby h
 ·exact zby h

theorem zfA {ls:List LK} {i:Nat} {B:BR} (h:zx B=true):zcU ls noU i B (tickB B):=by
 have h0:=zim h;unfold tickB at *;rw [if_pos h] at *;exact ⟨rfl,h0,rfl,fun q x' hx'=>⟨x',hx',rfl,.inl⟩⟩

theorem zdq {ls:List LK} {i:Nat} {B:BR} (h:zx B=true) (j:Nat) (up:Bool) (hj:j < B.ports.length):zcU ls (atU (i:Int) (j:Int) up) i B (linkB B (j:Int) up):=by
 have h0:=zf7 h (j:Int) up;have ht:zaS B (j:Int)=true:=by
  unfold zaS;rw [h,decide_eq_true (show (0:Int)≤j by omega),decide_eq_true (show (j:Int)≤(B.ports.length:Int) - 1 by omega)]
  rfl
 unfold linkB at *;rw [if_pos ht,Int.toNat_natCast,List.getElem?_eq_getElem hj] at *;dsimp only at *;refine ⟨rfl,h0,by simp [turned],fun q x' hx' => ?_⟩;have hy':(B.ports.set j ⟨up,(B.ports[j]).k,false,⟨0,0,0,0,0⟩⟩)[q]? = some x':=hx';rw [List.getElem?_set] at hy'
 split at hy'
 ·next e =>
  subst e;have e2:(⟨up,(B.ports[j]).k,false,⟨0,0,0,0,0⟩⟩:PT)=x':=by simpa [hj] using hy'
  subst e2;exact ⟨_,List.getElem?_eq_getElem hj,by unfold atU; rw [if_pos ⟨rfl,rfl⟩]; rfl,fun e=>by cases e⟩
 ·next e =>
  refine ⟨x',hy', ?_,.inl⟩;unfold atU;rw [if_neg (fun hc=>e (by omega))]
  rfl

theorem ziE {B:BR} (h:zx B=true) (p:Int) (hp:0≤p∧p≤7):okVd (sayV B.id B.ports p)=true:=by
 have hid:=(zK h).2.1;have hid:1≤B.id∧B.id≤99:=by unfold in3 at hid; simpa using hid
 unfold okVd sayV okVc;simp only [Bool.and_eq_true,decide_eq_true_eq];cases hb:zae B.id B.ports with
 | none=>exact ⟨hid,⟨by simp [bestV],by simp [bestV]⟩,⟨by simp [bestV],by simp [bestV]⟩,hid,hp⟩
 | some fj =>
  obtain ⟨f,j⟩:=fj;obtain ⟨x,-,ho,rfl⟩:=zef hb;obtain ⟨-,-,hs,-⟩:=zeU ho;unfold ze5 zbX at hs;simp only [Bool.and_eq_true,decide_eq_true_eq,okVc] at hs;simp only [bestV,stepV];omega

theorem zaU {bs:List BR} {b p:Int} {u:PT} (h:zM bs b p=some u):∃(i j:Nat) (B:BR),b=(i:Int)∧p=(j:Int)∧bs[i]? = some B∧B.ports[j]? = some u:=by
 unfold zM at h
 split at h
 ·next hb =>
  cases hB:bs[b.toNat]? with
  | none=>rw [hB] at h; cases h
  | some B =>
   rw [hB] at h;exact ⟨b.toNat,p.toNat,B,by omega,by omega,hB,h⟩
 ·cases h

theorem zht {bs:List BR} {ls:List LK} {ss:List SY} (h:NetOk bs ls ss) (b:Int):∀k,k≤ls.length→zdS ls (sayTo bs ls b ss k)
 | 0,_=>h.2.2.2
 | k+1,hk=>by
  have ih:=zht h b k (by omega)
  show zdS ls (za2 bs ls b (sayTo bs ls b ss k) k)
  unfold za2
  split
  ·next x hx =>
   split
   ·next hc =>
    obtain ⟨⟨hne,u,v,hu,hv,-⟩,-⟩:=h.2.1.2 x (List.mem_of_getElem? hx);obtain ⟨i,j,A,ea,ep,hA,hpA⟩:=zaU hu;obtain ⟨i2,j2,D,eb,eq,hD,hpD⟩:=zaU hv;have okA:=h.1.1 A (List.mem_of_getElem? hA);have okD:=h.1.1 D (List.mem_of_getElem? hD);have lA:=(zK okA).2.2.2.1;have lD:=(zK okD).2.2.2.1;have lA:(A.ports.length:Int)≤6:=by unfold in3 at lA; simp at lA; omega
    have lD:(D.ports.length:Int)≤6:=by unfold in3 at lD; simp at lD; omega
    have jA:=(List.getElem?_eq_some_iff.1 hpA).1;have jD:=(List.getElem?_eq_some_iff.1 hpD).1;have add:∀(back:Bool) (vv:VD),okVd vv=true→zdS ls (sayTo bs ls b ss k++[⟨(k:Int),back,vv⟩]):=fun back vv hvv=>by
     refine ⟨by rw [List.length_append]; simp; omega,fun s hs => ?_⟩;rcases List.mem_append.1 hs with h1 | h1
     ·exact ih.2 s h1
     ·simp at h1
      rw [h1];exact ⟨by simp; omega,hvv⟩
    split
    ·refine add _ _ ?_;unfold sayAt;rw [ea,Int.toNat_natCast,hA];exact ziE okA _ (by omega)
    ·split
     ·refine add _ _ ?_;unfold sayAt;rw [eb,Int.toNat_natCast,hD];exact ziE okD _ (by omega)
     ·exact ih
   ·exact ih
  ·exact ih

theorem zhH {ls:List LK} {x:LK} (h:x∈ls):usedL ls x.a x.p≠0∧usedL ls x.b x.q≠0:=by
 unfold usedL;obtain ⟨h1,h2⟩:=zcn h;exact ⟨by have:=List.count_pos_iff.2 h1; omega,by have:=List.count_pos_iff.2 h2; omega⟩

theorem zbl {ls:List LK} (h:(endsL ls).Nodup) {x y:LK} (hx:x∈ls) (hy:y∈ls) (he:(y.a,y.p)=(x.a,x.p)∨(y.a,y.p)=(x.b,x.q)∨(y.b,y.q)=(x.a,x.p)∨(y.b,y.q)=(x.b,x.q)):y=x:=by
 induction ls with
 | nil=>cases hx
 | cons z l ih =>
  rw [zdj] at h;obtain ⟨h1,h2⟩:=List.nodup_cons.1 h;obtain ⟨h3,h4⟩:=List.nodup_cons.1 h2;rcases List.mem_cons.1 hx with ex | hx1 <;> rcases List.mem_cons.1 hy with ey | hy1
  ·rw [ex,ey]
  ·exfalso
   subst ex;obtain ⟨m1,m2⟩:=zcn hy1;rcases he with e | e | e | e
   ·exact h1 (List.mem_cons_of_mem _ (e▸m1))
   ·exact h3 (e▸m1)
   ·exact h1 (List.mem_cons_of_mem _ (e▸m2))
   ·exact h3 (e▸m2)
  ·exfalso
   subst ey;obtain ⟨m1,m2⟩:=zcn hx1;rcases he with e | e | e | e
   ·exact h1 (List.mem_cons_of_mem _ (e▸m1))
   ·exact h1 (List.mem_cons_of_mem _ (e▸m2))
   ·exact h3 (e▸m1)
   ·exact h3 (e▸m2)
  ·exact ih h4 hx1 hy1

theorem zgC {bs:List BR} {ls:List LK} {ss:List SY} (h:NetOk bs ls ss) (k:Nat) (up:Bool):NetOk (zbV bs ls k up) ls ss:=by
 unfold zbV
 split
 ·exact h
 ·split
  ·next x hx =>
   have hxm:=List.mem_of_getElem? hx;have hnd:=((zdt bs ls).1 h.2.1).2.2;obtain ⟨⟨hne,u,v,hu,hv,-⟩,-⟩:=h.2.1.2 x hxm;obtain ⟨i,j,A,ea,ep,hA,hpA⟩:=zaU hu;obtain ⟨i2,j2,D,eb,eq,hD,hpD⟩:=zaU hv;have hij:i2≠i:=fun e=>hne (by rw [ea,eb,e])
   have k1:Kept ls (atU x.a x.p up) bs (atSet bs x.a.toNat (fun B=>linkB B x.p up)):=by
    rw [ea,ep,Int.toNat_natCast];refine za5 h.1.1 (fun m hm p=>by unfold atU; rw [if_neg (fun hc=>hm (by omega))]) (fun B hB => ?_);rw [hA] at hB;cases hB;exact zdq (h.1.1 A (List.mem_of_getElem? hA)) j up (List.getElem?_eq_some_iff.1 hpA).1
   have ok1:∀B∈atSet bs x.a.toNat (fun B=>linkB B x.p up),zx B=true:=fun B hB=>by
    obtain ⟨m,hm,rfl⟩:=List.mem_iff_getElem.1 hB;obtain ⟨_,_,g⟩:=k1.at' m _ (List.getElem?_eq_getElem hm);exact g.ok
   have k2:Kept ls (atU x.b x.q up) (atSet bs x.a.toNat (fun B=>linkB B x.p up)) (atSet (atSet bs x.a.toNat (fun B=>linkB B x.p up)) x.b.toNat (fun B=>linkB B x.q up)):=by
    have hD2:(atSet bs x.a.toNat (fun B=>linkB B x.p up))[i2]? = some D:=by
     unfold atSet
     split
     ·rw [ea,Int.toNat_natCast,List.getElem?_set_ne (fun e=>hij e.symm)]; exact hD
     ·exact hD
    rw [eb,eq,Int.toNat_natCast];refine za5 ok1 (fun m hm p=>by unfold atU; rw [if_neg (fun hc=>hm (by omega))]) (fun B hB => ?_);rw [hD2] at hB;cases hB;exact zdq (h.1.1 D (List.mem_of_getElem? hD)) j2 up (List.getElem?_eq_some_iff.1 hpD).1
   refine zct (fun y hy => ?_) h (k1.trans k2) h.2.2.2;unfold orU atU;by_cases e:y=x
   ·rw [e]
    simp [hne]
   ·rw [if_neg (fun hc=>e (zbl hnd hxm hy (.inr (.inl (by rw [hc.1,hc.2]))))),if_neg (fun hc=>e (zbl hnd hxm hy (.inl (by rw [hc.1,hc.2])))),if_neg (fun hc=>e (zbl hnd hxm hy (.inr (.inr (.inr (by rw [hc.1,hc.2])))))),if_neg (fun hc=>e (zbl hnd hxm hy (.inr (.inr (.inl (by rw [hc.1,hc.2]))))))]
  ·exact h

theorem zgw {bs:List BR} {ls:List LK} {ss:List SY} (h:NetOk bs ls ss) (kd:Int) (k:Nat):NetOk (zdm bs ls ss kd k) ls ss:=by
 unfold zdm
 split
 ·unfold zbM
  split
  ·unfold zf2
   split
   ·next s hs hc x hx =>
    have hu:=zhH (List.mem_of_getElem? hx);obtain ⟨⟨hne,u,v,hpu,hpv,-⟩,-⟩:=h.2.1.2 x (List.mem_of_getElem? hx);obtain ⟨i,j,A,ea,ep,hA,hpA⟩:=zaU hpu;obtain ⟨i2,j2,D,eb,eq,hD,hpD⟩:=zaU hpv
    split
    ·refine zct (U:=noU) (fun _ _=>rfl) h (za5 h.1.1 (fun _ _ _=>rfl) (fun B hB => ?_)) h.2.2.2;exact zdp (h.1.1 B (List.mem_of_getElem? hB)) _ _ (by rw [show ((x.a.toNat:Nat):Int)=x.a by omega]; exact hu.1)
    ·refine zct (U:=noU) (fun _ _=>rfl) h (za5 h.1.1 (fun _ _ _=>rfl) (fun B hB => ?_)) h.2.2.2;exact zdp (h.1.1 B (List.mem_of_getElem? hB)) _ _ (by rw [show ((x.b.toNat:Nat):Int)=x.b by omega]; exact hu.2)
   ·exact h
  ·exact h
 ·exact h

theorem zgO {bs:List BR} {ls:List LK} {ss:List SY} (h:NetOk bs ls ss) (kd a:Int):NetOk (stepB bs ls ss kd a) ls (stepS bs ls ss kd a):=by
 have hS:zdS ls (stepS bs ls ss kd a):=by
  unfold stepS
  split
  ·exact zht h a ls.length (Nat.le_refl _)
  ·split
   ·refine ⟨?_,fun s hs=>h.2.2.2.2 s ?_⟩
    ·have h1:=h.2.2.2.1;simp only [List.length_append,List.length_take,List.length_drop];omega
    ·rcases List.mem_append.1 hs with h1 | h1
     ·exact List.mem_of_mem_take h1
     ·exact List.mem_of_mem_drop h1
   ·exact h.2.2.2
 have hB:NetOk (stepB bs ls ss kd a) ls ss:=by
  unfold stepB
  split
  ·exact zct (U:=noU) (fun _ _=>rfl) h (za5 h.1.1 (fun _ _ _=>rfl) (fun B hB=>zfA (h.1.1 B (List.mem_of_getElem? hB)))) h.2.2.2
  ·split
   ·exact zgw h kd a.toNat
   ·split
    ·exact zgC h a.toNat _
    ·exact h
 exact ⟨hB.1,hB.2.1,hB.2.2.1,hS⟩

theorem zez {a b:List BR × List LK × List SY} {kd i:Int} {q:Bool} (h:StepR a kd i b q) (ha:NetOk a.1 a.2.1 a.2.2):NetOk b.1 b.2.1 b.2.2:=by
 by_cases ht:zaR a.1 a.2.1 a.2.2 kd i
 ·obtain ⟨-,e1,e2⟩:=h.yes ha ht;rw [e1,h.l,e2];exact zgO ha kd i
 ·obtain ⟨-,e1,e2⟩:=h.no (fun hc=>ht hc.2);rw [e1,h.l,e2];exact ha

def Hears (bs:List BR) (ls:List LK) (K u p v q:Nat):Prop:=∃(κ:Nat) (x:LK),κ < K∧ls[κ]? = some x∧zQ bs ls (κ:Int)=true∧(x=⟨(u:Int),(p:Int),(v:Int),(q:Int)⟩∨x=⟨(v:Int),(q:Int),(u:Int),(p:Int)⟩)

def knowT (B:BR):T3:=⟨(bestV B.id (zae B.id B.ports)).r,(bestV B.id (zae B.id B.ports)).c,(bestV B.id (zae B.id B.ports)).h⟩
def idAt (bs:List BR) (u:Nat):Int:=match bs[u]? with
 | some B=>B.id
 | none=>0
def knowAt (bs:List BR) (u:Nat):T3:=match bs[u]? with
 | some B=>knowT B
 | none=>⟨0,0,0⟩
def EdgeB (bs:List BR) (ls:List LK) (u v q:Nat) (k:Int):Prop:=∃(p:Nat) (B:BR) (y:PT),Hears bs ls ls.length u p v q∧bs[u]? = some B∧B.ports[p]? = some y∧y.k=k

theorem zd6 {B:BR} (h:zx B=true) {p:Nat} {y:PT} (hy:B.ports[p]? = some y):ptOk y=true∧p < 6∧B.ports.length≤6:=by
 have h1:=(zK h).1;have h2:=(zK h).2.2.2.1;unfold in3 at h2;simp only [Bool.and_eq_true,decide_eq_true_eq] at h2
 have:=(List.getElem?_eq_some_iff.1 hy).1
 exact ⟨List.all_eq_true.1 h1 y (List.mem_of_getElem? hy),by omega,by omega⟩

theorem zbo {bs:List BR} {ls:List LK} {K u p v q:Nat} (h:Hears bs ls K u p v q):∃(A D:BR) (pA pD:PT),bs[u]? = some A∧bs[v]? = some D∧A.ports[p]? = some pA∧D.ports[q]? = some pD:=by
 obtain ⟨κ,x,-,hx,hup,hc⟩:=h;obtain ⟨i,ip,j,jq,A,D,pA,pD,rfl,hA,hD,hpA,hpD⟩:=zcw hx hup;rcases hc with hc | hc
 ·simp only [LK.mk.injEq] at hc;obtain ⟨e1,e2,e3,e4⟩:=hc;have e1:i=u:=by omega
  have e2:ip=p:=by omega
  have e3:j=v:=by omega
  have e4:jq=q:=by omega
  subst e1 e2 e3 e4;exact ⟨A,D,pA,pD,hA,hD,hpA,hpD⟩
 ·simp only [LK.mk.injEq] at hc;obtain ⟨e1,e2,e3,e4⟩:=hc;have e1:i=v:=by omega
  have e2:ip=q:=by omega
  have e3:j=u:=by omega
  have e4:jq=p:=by omega
  subst e1 e2 e3 e4;exact ⟨D,A,pD,pA,hD,hA,hpD,hpA⟩

theorem zd1 {bs:List BR} {ls:List LK} {ss:List SY} (h:NetOk bs ls ss):Gr bs.length (idAt bs) (EdgeB bs ls) where
 lt:=by
  rintro u v q k ⟨p,B,y,hh,hB,-⟩;obtain ⟨A,D,-,-,hA,hD,-⟩:=zbo hh;exact ⟨(List.getElem?_eq_some_iff.1 hA).1,(List.getElem?_eq_some_iff.1 hD).1⟩
 cost:=by
  rintro u v q k ⟨p,B,y,-,hB,hy,rfl⟩
  have:=(zd6 (h.1.1 B (List.mem_of_getElem? hB)) hy).1
  unfold ptOk at this;simp only [Bool.and_eq_true,decide_eq_true_eq] at this;exact this.1
 apart:=by
  intro u v hu hv e;unfold idAt at e;rw [List.getElem?_eq_getElem hu,List.getElem?_eq_getElem hv] at e;dsimp only at e;rcases Nat.lt_trichotomy u v with hl | hl | hl
  ·exact absurd e (h.1.2.1 u v _ _ hl (List.getElem?_eq_getElem hu) (List.getElem?_eq_getElem hv))
  ·exact hl
  ·exact absurd e.symm (h.1.2.1 v u _ _ hl (List.getElem?_eq_getElem hv) (List.getElem?_eq_getElem hu))
 port:=by
  rintro u v q k ⟨p,B,y,hh,-⟩;obtain ⟨A,D,-,pD,-,hD,-,hpD⟩:=zbo hh
  have:=zd6 (h.1.1 D (List.mem_of_getElem? hD)) hpD
  omega
 pos:=by
  intro u hu;unfold idAt;rw [List.getElem?_eq_getElem hu]
  have:=(zK (h.1.1 _ (List.getElem_mem hu))).2.1
  unfold in3 at this;simp only [Bool.and_eq_true,decide_eq_true_eq] at this
  show 0≤(bs[u]).id
  omega
 six:=h.1.2.2.2

theorem zh1 {bs:List BR} {ls:List LK} {K u p v q:Nat} (h:Hears bs ls K u p v q) {A:BR} {y:PT} (hA:bs[u]? = some A) (hy:A.ports[p]? = some y):y.up=true:=by
 obtain ⟨κ,x,-,hx,hup,hc⟩:=h;unfold zQ at hup;rw [if_pos (by omega),Int.toNat_natCast,hx] at hup;dsimp only at hup;rw [Bool.and_eq_true] at hup;rcases hc with rfl | rfl
 ·have:=hup.1
  unfold upAt at this;rw [zdw hA hy] at this;exact this
 ·have:=hup.2
  unfold upAt at this;rw [zdw hA hy] at this;exact this

def hop1 (bs:List BR) (x:LK) (back:Bool):HP:=if back=true then ⟨x.b.toNat,x.a.toNat,match zM bs x.a x.p with | some y=>y.k | none=>0⟩ else ⟨x.a.toNat,x.b.toNat,match zM bs x.b x.q with | some y=>y.k | none=>0⟩
def hopsK (bs:List BR) (ls:List LK) (k:Int):List HP:=match ls[k.toNat]? with
 | some x=>[hop1 bs x false,hop1 bs x true]
 | none=>[]
def zam (bs:List BR) (ls:List LK) (U:List Int):List HP:=U.flatMap (hopsK bs ls)

theorem zcM (bs:List BR) (ls:List LK):∀U:List Int,(zam bs ls U).length≤2*U.length
 | []=>Nat.le_refl _
 | k::U=>by
  have ih:=zcM bs ls U;unfold zam at ih ⊢;rw [List.flatMap_cons,List.length_append,List.length_cons]
  have:(hopsK bs ls k).length≤2:=by
   unfold hopsK
   split <;> simp
  omega

theorem zfu {bs:List BR} {ls:List LK} {U:List Int} {n:Nat} {z:Int} (h:U[n]? = some z):zam bs ls (U.take (n+1))=zam bs ls (U.take n)++hopsK bs ls z:=by
 unfold zam;rw [List.take_add_one,h,List.flatMap_append]
 simp

theorem zeL {bs:List BR} {ls:List LK} {κ:Nat} {x:LK} (hx:ls[κ]? = some x) (hκ:κ < ls.length) (hup:zQ bs ls (κ:Int)=true) (back:Bool):∃q,EdgeB bs ls (hop1 bs x back).t (hop1 bs x back).f q (hop1 bs x back).c:=by
 obtain ⟨i,ip,j,jq,A,D,pA,pD,rfl,hA,hD,hpA,hpD⟩:=zcw hx hup;have e1:zM bs (i:Int) (ip:Int)=some pA:=by
  unfold zM;rw [if_pos (by omega),Int.toNat_natCast,Int.toNat_natCast,hA];exact hpA
 have e2:zM bs (j:Int) (jq:Int)=some pD:=by
  unfold zM;rw [if_pos (by omega),Int.toNat_natCast,Int.toNat_natCast,hD];exact hpD
 cases back
 ·refine ⟨ip,jq,D,pD,⟨κ,_,hκ,hx,hup,.inr ?_⟩, ?_,hpD, ?_⟩
  ·simp [hop1]
  ·simpa [hop1] using hD
  ·simp [hop1,e2]
 ·refine ⟨jq,ip,A,pA,⟨κ,_,hκ,hx,hup,.inl ?_⟩, ?_,hpA, ?_⟩
  ·simp [hop1]
  ·simpa [hop1] using hA
  ·simp [hop1,e1]

structure zc9 (bs:List BR) (ls:List LK) (H:List HP):Prop where
 down:∀h∈H,∃q,EdgeB bs ls h.t h.f q h.c
 up:∀u v q k,EdgeB bs ls u v q k→(⟨v,u,k⟩:HP)∈H

theorem zh2 (bs:List BR) (ls:List LK):zc9 bs ls (zam bs ls (upTo bs ls ls.length)) where
 down:=by
  intro h hh;unfold zam at hh;obtain ⟨z,hz,hm⟩:=List.mem_flatMap.1 hh;obtain ⟨h0,h1,h2⟩:=zfQ bs ls ls.length z hz;obtain ⟨κ,rfl⟩:∃κ:Nat,z=(κ:Int):=⟨z.toNat,by omega⟩;have hκ:κ < ls.length:=by omega
  unfold hopsK at hm;rw [Int.toNat_natCast,List.getElem?_eq_getElem hκ] at hm;simp only [List.mem_cons,List.not_mem_nil,or_false] at hm;rcases hm with rfl | rfl
  ·exact zeL (List.getElem?_eq_getElem hκ) hκ h2 false
  ·exact zeL (List.getElem?_eq_getElem hκ) hκ h2 true
 up:=by
  rintro u v q k ⟨p,B,y,⟨κ,x,hκ,hx,hup,hc⟩,hB,hy,rfl⟩;have hm:(κ:Int)∈upTo bs ls ls.length:=zgl.2 ⟨κ,rfl,hκ,hup⟩;unfold zam;refine List.mem_flatMap.2 ⟨_,hm, ?_⟩;unfold hopsK;rw [Int.toNat_natCast,hx];have e1:zM bs (u:Int) (p:Int)=some y:=by
   unfold zM;rw [if_pos (by omega),Int.toNat_natCast,Int.toNat_natCast,hB];exact hy
  rcases hc with rfl | rfl
  ·refine List.mem_cons_of_mem _ (List.mem_singleton.2 ?_)
   simp [hop1,e1]
  ·refine List.mem_cons.2 (.inl ?_)
   simp [hop1,e1]

theorem ziu {bs:List BR} {ls:List LK} {κ:Nat} {x:LK} (hx:ls[κ]? = some x) (hup:zQ bs ls (κ:Int)=true) {back:Bool} {fb tb tp:Int} (h1:fb=if back=true then x.b else x.a) (h2:tb=if back=true then x.a else x.b) (h3:tp=if back=true then x.p else x.q):∃y,zM bs tb tp=some y∧((fb.toNat:Nat):Int)=fb∧((tb.toNat:Nat):Int)=tb∧hop1 bs x back=⟨fb.toNat,tb.toNat,y.k⟩:=by
 obtain ⟨i,ip,j,jq,A,D,pA,pD,rfl,hA,hD,hpA,hpD⟩:=zcw hx hup;have e1:zM bs (i:Int) (ip:Int)=some pA:=by
  unfold zM;rw [if_pos (by omega),Int.toNat_natCast,Int.toNat_natCast,hA];exact hpA
 have e2:zM bs (j:Int) (jq:Int)=some pD:=by
  unfold zM;rw [if_pos (by omega),Int.toNat_natCast,Int.toNat_natCast,hD];exact hpD
 cases back
 ·subst h1 h2 h3;exact ⟨pD,e2,by simp,by simp,by simp [hop1,e2]⟩
 ·subst h1 h2 h3;exact ⟨pA,e1,by simp,by simp,by simp [hop1,e1]⟩

theorem zjx (x:LK) (back:Bool):∃fb fp tb tp,Way x back fb fp tb tp∧fb=(if back=true then x.b else x.a)∧tb=(if back=true then x.a else x.b)∧tp=(if back=true then x.p else x.q):=by
 cases back
 ·exact ⟨x.a,x.p,x.b,x.q,⟨(by intro h; cases h),fun _=>⟨rfl,rfl,rfl,rfl⟩⟩,rfl,rfl,rfl⟩
 ·exact ⟨x.b,x.q,x.a,x.p,⟨fun _=>⟨rfl,rfl,rfl,rfl⟩,(by intro h; cases h)⟩,rfl,rfl,rfl⟩

theorem zgy (N:NV) (w:World) (h:zac w N) (h20:N.ln≤1048576) :
  Calls Tryz.prog 67 #[.agg #[.slice N.ba N.bn N.bc,.slice N.la N.ln N.lc,.slice N.sa N.sn N.sc]] w fun e w'=>∃(ao:Option Addr) (cap:Nat) (H:List HP),e=.returned (.slice ao H.length cap)∧H=zam N.brs N.ls (upTo N.brs N.ls N.ln)∧w'.ownsRow w.heap.size 157 3 (.slice ao H.length cap) H.length (hopF.all H)∧Below w.heap.size w w':=by
 have hll:=h.l.size;generalize hw1:w.alloc (Obj.cells #[.slice N.ba N.bn N.bc,.slice N.la N.ln N.lc,.slice N.sa N.sn N.sc] 28)=w1;have b01:=zb hw1;have k1:=zk hw1;obtain ⟨x0,x1,x2⟩:=zd k1;go_enter Tryz.func67,Tryz.ntmps67;go_wp2_with fail
 refine (zbJ N _ (h.below b01) h20).mono ?_;rintro e w2 ⟨ua,uc,rfl,ou,hb2⟩;have HUI:Hid (∀z∈upTo N.brs N.ls N.ln,0≤z∧z < (N.ln:Int)∧zQ N.brs N.ls z=true):=hide (zfQ N.brs N.ls N.ln);have HUL:=hide (zcG N.brs N.ls N.ln);have gu:=zA (F:=intF) ou;have b02:=zc b01 hb2;have k2:=za k1 hb2;have HHD:=hide (rfl:zam N.brs N.ls (upTo N.brs N.ls N.ln)=zam N.brs N.ls (upTo N.brs N.ls N.ln));generalize hU:upTo N.brs N.ls N.ln=U at *;have HU:=hide hU;clear x0 x1 x2 hw1 k1 b01 hb2 ou hU HHD;go_wp2_with fail
 go_loopw [3,13] (fun s i wr=>∃(k:Nat) (ao:Option Addr) (cap:Nat),k≤U.length∧i=.int .i64 k∧s=.slice ao (zam N.brs N.ls (U.take k)).length cap∧wr.ownsRow w2.heap.size 157 3 (.slice ao (zam N.brs N.ls (U.take k)).length cap) (zam N.brs N.ls (U.take k)).length (hopF.all (zam N.brs N.ls (U.take k)))∧Below w2.heap.size w2 wr) (fun _ i _=>U.length - (intOf i).toNat)
 case atStart=>exact ⟨0,none,0,Nat.zero_le _,rfl,rfl,World.ownsRow_nil _ _ _ _,Below.refl _ _⟩
 case round =>
  obtain ⟨k,ao,cap,hk,rfl,rfl,ow,hb⟩:=hrel;have hul:=HUL.out;by_cases hlt:k < U.length
  ·have i2:(k:Int) < (U.length:Int):=by omega
   obtain ⟨z,ub,uo,hz,rfl,c0⟩:=zfv (gu.below hb) k hlt;obtain ⟨z0,z1,z2⟩:=HUI.out z (List.mem_of_getElem? hz);obtain ⟨κ,rfl⟩:∃κ:Nat,z=(κ:Int):=⟨z.toNat,by omega⟩;have hκ:κ < N.ln:=by omega
   obtain ⟨x,lb,lo,hx,hla,-⟩:=zak (h.l.below b02) κ hκ;have HX:=hide hx;have HLA:=hide hla;have HUP:=hide z2;have HNX:=hide (zfu (bs:=N.brs) (ls:=N.ls) hz);have HKK:Hid (hopsK N.brs N.ls (κ:Int)=[hop1 N.brs x false,hop1 N.brs x true]):=hide (by unfold hopsK; rw [Int.toNat_natCast,hx]);have HML:Hid ((zam N.brs N.ls (U.take k)).length≤2*U.length):=hide (Nat.le_trans (zcM _ _ _) (by rw [List.length_take]; omega));generalize hwb:wr.alloc (Obj.cells #[.bool false,.bool true] 4)=wb;have brb:=zb hwb;have kb:=zk hwb;have ow:=zi ow brb;have hb:=zc hb brb;have HBX:=hide hb;clear hz hx hla z0 z1 z2;generalize hH0:zam N.brs N.ls (U.take k)=H0 at *;clear hH0;(go_wp2_with fail);(try rw [hwb]);have HBB:=hide (zp (zl kb).1);generalize hbb:wr.heap.size=bb at *;clear hwb hbb brb
   go_loopw [3,19] (fun s i wq=>∃(j:Nat) (ao:Option Addr) (cap:Nat),j≤2∧i=.int .i64 j∧s=.slice ao (H0++[hop1 N.brs x false,hop1 N.brs x true].take j).length cap∧wq.ownsRow w2.heap.size 157 3 (.slice ao (H0++[hop1 N.brs x false,hop1 N.brs x true].take j).length cap) (H0++[hop1 N.brs x false,hop1 N.brs x true].take j).length (hopF.all (H0++[hop1 N.brs x false,hop1 N.brs x true].take j))∧wq.heap[bb]? = some (.cells #[.bool false,.bool true] 4)∧Below w2.heap.size w2 wq) (fun _ i _=>2 - (intOf i).toNat)
   case atStart=>exact ⟨0,ao,cap,by omega,rfl,by simp,by simpa using ow,kb,hb⟩
   case round =>
    clear ow kb hb;obtain ⟨j,a3,c3,hj,rfl,rfl,ow,kb,hq⟩:=hrel;by_cases hj2:j < 2
    ·obtain ⟨back,hback⟩:∃back:Bool,back=decide (j=1):=⟨_,rfl⟩;have cb:wr.cell? ⟨bb,j,none⟩=some (.bool back):=by
      obtain ⟨b0,b1⟩:=zl kb;rcases (show j=0∨j=1 by omega) with rfl | rfl
      ·rw [hback]; exact b0
      ·rw [hback]; exact b1
     have hhop:(H0++[hop1 N.brs x false,hop1 N.brs x true].take (j+1))=(H0++[hop1 N.brs x false,hop1 N.brs x true].take j)++[hop1 N.brs x back]:=by
      rcases (show j=0∨j=1 by omega) with rfl | rfl <;> (rw [hback]; simp)
     have HLJ:Hid ((H0++[hop1 N.brs x false,hop1 N.brs x true].take j).length≤2*U.length+2):=hide (by have:=HML.out; rw [List.length_append,List.length_take]; simp; omega);have HHN:=hide hhop;obtain ⟨x',lb',lo',hx',hla',a0,a1,a2,a3⟩:=zak (h.l.below (zc b02 hq)) κ hκ;rw [HX.out] at hx';cases hx';rw [HLA.out] at hla';cases hla';have kP:=za k2 hq;obtain ⟨x0,x1,x2⟩:=zd kP;rw [HLA.out] at x1;obtain ⟨fb,fp,tb,tp,hwy,hfb,htb,htp⟩:=zjx x back;obtain ⟨y,hpo,hf0,ht0,hop⟩:=ziu HX.out HUP.out hfb htb htp;have HPO:=hide hpo;have HFT:=hide (And.intro hf0 ht0);have HOP:=hide hop;have i3:(0:Int)≤(κ:Int):=by omega
     have i4:(κ:Int) < (N.ln:Int):=by omega
     have i5:(j:Int) < 2:=by omega
     generalize hHJ:H0++[hop1 N.brs x false,hop1 N.brs x true].take j=H at *;clear hback hhop hfb htb htp hpo hf0 ht0 hop hHJ;have hsl:=HLJ.out;have HOWB:=hide ow.lt;(go_wp2_with fail);refine (zhJ x back fb fp tb tp _ hwy).mono ?_;rintro e w4 ⟨rfl,b24⟩;generalize hz5:w4.alloc (Obj.cells #[.int .i64 0,.int .i64 0] 68)=z5;generalize hz6:z5.alloc (Obj.cells #[.int .i64 0,.int .i64 0] 68)=z6;have b45:=zb hz5;have b56:=zb hz6;have kF:=za (zk hz5) b56;have kG:=zk hz6;have HZ5:Hid (z5.heap.size=w4.heap.size+1):=hide (by rw [← hz5]; simp);obtain ⟨p0,p1⟩:=zl kF;obtain ⟨p2,p3⟩:=zl kG;have p4:=zg kF 0;have p5:=zg kF 1;have p6:=zg kG 0;have p7:=zg kG 1;have ne1:¬w4.heap.size=z5.heap.size:=by have:=HZ5.out; omega
     have ne2:¬z5.heap.size=w4.heap.size:=by have:=HZ5.out; omega
     have HW4:Hid (wr.heap.size≤w4.heap.size):=hide b24.size;have b46:=zc b24 (zc b45 b56);have kP:=za kP b46;have kb:=za kb b46;have b26:=zc hq b46;have HP0:Hid (w.heap.size < w4.heap.size):=hide (Nat.lt_of_lt_of_le (Array.getElem?_eq_some_iff.1 k2).1 (Nat.le_trans hq.size HW4.out));have HP2:Hid (w2.heap.size≤w4.heap.size):=hide (Nat.le_trans hq.size HW4.out);have HPB:Hid (bb < w4.heap.size):=hide (Nat.lt_of_lt_of_le (zp cb) HW4.out);have ow6:=zi ow b46;clear x0 x1 x2 a0 a1 a2 a3 b24 b45 b56 b46 ow cb hq hwy;(go_upto_region 9 with fail);generalize hw6:(((z6.setCell ⟨w4.heap.size,0,none⟩ (.int .i64 fb)).setCell ⟨w4.heap.size,1,none⟩ (.int .i64 fp)).setCell ⟨z5.heap.size,0,none⟩ (.int .i64 tb)).setCell ⟨z5.heap.size,1,none⟩ (.int .i64 tp)=w6;obtain ⟨w5,hw5⟩:∃w5:World,w5=(z6.setCell ⟨w4.heap.size,0,none⟩ (.int .i64 fb)).setCell ⟨w4.heap.size,1,none⟩ (.int .i64 fp):=⟨_,rfl⟩;have kF5:w5.heap[w4.heap.size]? = some (.cells #[.int .i64 fb,.int .i64 fp] 68):=by rw [hw5]; exact zI (K:=fun W=>W.heap[w4.heap.size]? = some (.cells #[.int .i64 fb,.int .i64 fp] 68)) kF _ _ (fun wq kQ _=>kQ)
     have hgA:z6.grownBy w5 (some w4.heap.size):=by rw [hw5]; exact zL (zj 0 _) (zj 1 _)
     have hgB:w5.grownBy w6 (some z5.heap.size):=by rw [← hw6,← hw5]; exact zL (zj 0 _) (zj 1 _)
     have kG:w6.heap[z5.heap.size]? = some (.cells #[.int .i64 tb,.int .i64 tp] 68):=by rw [← hw6,← hw5]; exact zI (K:=fun W=>W.heap[z5.heap.size]? = some (.cells #[.int .i64 tb,.int .i64 tp] 68)) (ze kG hgA (by intro j e; cases e; exact ne1)) _ _ (fun wq kQ _=>kQ)
     have kF:=ze kF5 hgB (by intro j e; cases e; exact ne2);have kP:=ze (ze kP hgA (by intro j e; cases e; have:=HP0.out; omega)) hgB (by intro j e; cases e; have:=HP0.out; have:=HZ5.out; omega);have kb:=ze (ze kb hgA (by intro j e; cases e; have:=HPB.out; omega)) hgB (by intro j e; cases e; have:=HPB.out; have:=HZ5.out; omega);have ow6:=zo (zo ow6 hgA (fun b hb=>by have:=(HOWB.out b hb).2; have:=HW4.out; omega)) hgB (fun b hb=>by have:=(HOWB.out b hb).2; have:=HW4.out; have:=HZ5.out; omega);have b26:=(b26.grown hgA b26.size (by intro j e; cases e; exact HP2.out)).grown hgB (Nat.le_trans b26.size hgA.size) (by intro j e; cases e; have:=HP2.out; have:=HZ5.out; omega);have vv:Below w6.heap.size w6 w6.drew:=zG (Below.refl _ _);clear hw6 hw5 hgA hgB kF5 p0 p1 p2 p3 p4 p5 p6 p7 hz5 hz6 ne1 ne2;refine wp_region_held_drew (S:=(fun W=>(zcc W w.heap.size 0 (.slice N.ba N.bn N.bc)∧zcc W w.heap.size 1 (.slice N.la N.ln N.lc)∧zcc W w.heap.size 2 (.slice N.sa N.sn N.sc))∧(zcc W w4.heap.size 0 (.int .i64 fb)∧zcc W w4.heap.size 1 (.int .i64 fp))∧(zcc W z5.heap.size 0 (.int .i64 tb)∧zcc W z5.heap.size 1 (.int .i64 tp)))) (by kernel_rfl) (⟨zd (za kP vv),zl (za kF vv),zl (za kG vv)⟩) (fun hHeld => ?_);refine kK 0 ⟨some 33,.move (.tmp 3),129,"l16_true.go:64",#[],none⟩ ?_;refine kK 1 ⟨some 34,.fieldAddr 68 (.tmp 8) 0,0,"l16_true.go:64",#[],none⟩ ?_;refine kK 2 ⟨some 35,.load 3 (.tmp 34),3,"l16_true.go:64",#[⟨1,.data⟩],none⟩ ?_;refine kK 3 ⟨some 36,.fieldAddr 68 (.tmp 9) 0,0,"l16_true.go:64",#[],none⟩ ?_;refine kK 4 ⟨some 37,.load 3 (.tmp 36),3,"l16_true.go:64",#[⟨3,.data⟩],none⟩ ?_;refine kK 5 ⟨some 38,.load 28 (.tmp 1),28,"l16_true.go:64",#[],none⟩ ?_;refine kK 6 ⟨some 39,.load 68 (.tmp 9),68,"l16_true.go:64",#[],none⟩ ?_;refine kR 7 ⟨some 40,.call ⟨.value (.func 52),#[.tmp 38,.tmp 39],#[28,68]⟩,108,"l16_true.go:64",#[⟨5,.data⟩,⟨6,.data⟩],none⟩ (fun K hK => ?_);go_simp;clear hHeld;refine (zd4 N tb tp _ (h.below (zc b02 (zc b26 vv)))).mono ?_;rintro e w7 ⟨pv,rfl,hpa,hb7⟩;rw [HPO.out] at hpa;obtain ⟨pg,pj,rfl,-,hpk,-⟩:=hpa;have hpk:=(hb7.cell (zp hpk)).trans hpk;have vv:=zc vv hb7;clear hb7;(go_wp2_with fail);refine kO hK (⟨zd (za kP vv),zl (za kF vv),zl (za kG vv)⟩) fun hHeld => ?_
     clear hK K;refine kK 8 ⟨some 41,.nilCheck (.tmp 40),0,"l16_true.go:64",#[⟨7,.data⟩],none⟩ ?_;refine kK 9 ⟨some 42,.fieldAddr 53 (.tmp 41) 1,0,"l16_true.go:64",#[⟨8,.data⟩],none⟩ ?_;refine kR 10 ⟨some 43,.load 3 (.tmp 42),3,"l16_true.go:64",#[⟨9,.data⟩],none⟩ (fun K hK => ?_);go_simp;refine kO hK (⟨zd (za kP vv),zl (za kF vv),zl (za kG vv)⟩) fun hHeld => ?_
     clear hK K;refine kK 11 ⟨some 44,.build 157 #[(0,.tmp 35),(1,.tmp 37),(2,.tmp 43)],157,"l16_true.go:64",#[⟨2,.data⟩,⟨4,.data⟩,⟨10,.data⟩],none⟩ ?_;refine kR 12 ⟨some 45,.buildSlice 129 1 #[(0,.tmp 44)],129,"l16_true.go:64",#[⟨11,.data⟩],none⟩ (fun K hK => ?_);go_simp
     first
     | refine zw (K:=K _) (fun wx kN hbx => ?_)
     | refine zq (K:=K _) (fun wx kN hbx => ?_)
     have vv:=zc vv hbx;clear hbx;refine kO hK (⟨zd (za kP vv),zl (za kF vv),zl (za kG vv)⟩) fun hHeld => ?_
     clear hK K;refine kR 13 ⟨some 46,.call ⟨.builtin .append,#[.tmp 33,.tmp 45],#[129,129]⟩,129,"l16_true.go:64",#[⟨0,.data⟩,⟨12,.data⟩,⟨7,.chain⟩],none⟩ (fun K hK => ?_);have gn1:GRow hopF wx (some ⟨_,0,none⟩) 1 1 [(⟨fb.toNat,tb.toNat,y.k⟩:HP)]:=zA (F:=hopF) (zaC hopF (l:=[(⟨fb.toNat,tb.toNat,y.k⟩:HP)]) (base:=0) kN (by rw [hopF.all_one]; show _=[Value.int .i64 ((fb.toNat:Nat):Int),Value.int .i64 ((tb.toNat:Nat):Int),Value.int .i64 y.k]; rw [HFT.out.1,HFT.out.2]) (Nat.zero_le _) (by simp));have owN:=zi ow6 vv;refine zh (F:=hopF) rfl _ _ 129 157 rfl w2.heap.size Tryz.underlying129 ziN rfl (by decide) _ H.length H rfl owN _ 1 1 _ rfl gn1 (by omega) (Nat.le_trans b26.size vv.size) ?_;intro aL cL wL how _ hgr hbL;have kPL:=ze (za kP vv) hgr (zaa owN (za kP vv) (by decide));have kFL:=ze (za kF vv) hgr (zaa owN (za kF vv) (by decide));have kGL:=ze (za kG vv) hgr (zaa owN (za kG vv) (by decide));have kbL:=hide (ze (za kb vv) hgr (zaa owN (za kb vv) (by decide)));have HSL:=hide (And.intro (zd kPL) (And.intro (zl kFL) (zl kGL)));clear kPL kFL kGL;refine kO hK (HSL.out) fun hHeld => ?_
     clear hK K;refine kK 14 ⟨some 3,.assign (.tmp 46),129,"l16_true.go:64",#[⟨13,.data⟩,⟨13,.chain⟩,⟨0,.phase⟩,⟨1,.phase⟩,⟨2,.phase⟩,⟨3,.phase⟩,⟨4,.phase⟩,⟨5,.phase⟩,⟨6,.phase⟩,⟨7,.phase⟩,⟨8,.phase⟩,⟨9,.phase⟩,⟨10,.phase⟩,⟨11,.phase⟩,⟨12,.phase⟩,⟨13,.phase⟩],none⟩ ?_;refine wpAnyH_done (by kernel_rfl) ?_ _;have HEQ:Hid (H0++[hop1 N.brs x false,hop1 N.brs x true].take (j+1)=H++[(⟨fb.toNat,tb.toNat,y.k⟩:HP)]):=hide (by rw [HHN.out,HOP.out]);have HLQ:Hid ((H0++[hop1 N.brs x false,hop1 N.brs x true].take (j+1)).length=H.length+1):=hide (by rw [HEQ.out,List.length_append]; rfl);have HOW:=hide how;have HV:=hide ((zc b26 vv).trans hbL);clear hHeld how hgr hbL owN kN gn1 vv;go_wp2
     go_roundw
     case rel=>exact ⟨j+1,aL,cL,by omega,by go_num,by rw [HLQ.out],by rw [HLQ.out,HEQ.out]; exact HOW.out,kbL.out,HV.out⟩
     case measure=>simp [intOf]; omega
    ·have hjn:j=2:=by omega
     subst hjn;have HOW:Hid (wr.ownsRow w2.heap.size 157 3 (.slice a3 (zam N.brs N.ls (U.take (k+1))).length c3) (zam N.brs N.ls (U.take (k+1))).length (hopF.all (zam N.brs N.ls (U.take (k+1))))):=hide (by rw [HNX.out,HKK.out]; exact ow);have HLN:Hid ((zam N.brs N.ls (U.take (k+1))).length=(H0++[hop1 N.brs x false,hop1 N.brs x true].take 2).length):=hide (by rw [HNX.out,HKK.out]; rfl);have HB2:=hide hq;clear ow hq kb;go_wp2
     go_roundw
     case rel=>exact ⟨k+1,a3,c3,by omega,by go_num,by rw [HLN.out],HOW.out,HB2.out⟩
     case measure=>simp [intOf]; omega
  ·have hke:k=U.length:=by omega
   subst hke;have HOW:Hid (wr.ownsRow w.heap.size 157 3 (.slice ao (zam N.brs N.ls U).length cap) (zam N.brs N.ls U).length (hopF.all (zam N.brs N.ls U))):=hide (by have:=ow; rw [List.take_length] at this; exact zB this b02.size);have HLN:Hid ((zam N.brs N.ls (U.take U.length)).length=(zam N.brs N.ls U).length):=hide (by rw [List.take_length]);have HB:=hide (zc b02 hb);clear ow hb;go_wp2;go_ret;exact ⟨ao,cap,zam N.brs N.ls U,by first | rfl | (rw [HLN.out]; rfl),by rw [HU.out],HOW.out,HB.out⟩

theorem ziS {bs:List BR} {ls:List LK} {m b:Nat} {id:Nat→Int} (g0:Gr m id (EdgeB bs ls)) {n:TN} {r:List TN} {H:List HP} {L:List (List TN)} (hl:zbI n r H L) (hH:zc9 bs ls H) (ht:TrOk m (EdgeB bs ls) b (n::r)):∀t∈L,∃n':TN,t=n'::n::r∧TrOk m (EdgeB bs ls) b (n'::n::r):=by
 intro t h;obtain ⟨b',x,h1,h2,h3,rfl⟩:=hl.down t h;obtain ⟨q,he⟩:=hH.down x h1;rw [h2] at he;exact ⟨_,rfl,ht,(g0.lt _ _ _ _ he).2,⟨q,x.c,he,rfl⟩,h3,rfl⟩

theorem ziR {bs:List BR} {ls:List LK} {n:TN} {r:List TN} {H:List HP} {L:List (List TN)} (hl:zbI n r H L) (hH:zc9 bs ls H):On (EdgeB bs ls) n r L:=by
 intro y q k he hy;obtain ⟨b',hm⟩:=hl.up ⟨y,n.p,k⟩ (hH.up _ _ _ _ he) rfl hy;exact ⟨_,hm,rfl,rfl⟩

structure LIn (m:Nat) (E:Nat→Nat→Nat→Int→Prop) (b:Nat) (w2 wr:World) (bm:Nat) (v:Value) (ha:Option Addr) (hc:Nat) (H:List HP) (t:List TN) (W0 c0:Nat) (aL:Option Addr) (cL:Nat) (L:List (List TN)) (j:Nat) (rest:List (List TN)) (g:Nat × Nat→Option Int) (cnt:Nat):Prop where
 srch:Srch m E b (t::rest) g
 mem:LMem w2 wr bm cnt v (t::rest) g ha hc H
 told:∀(i:Nat) t',i < j→L[i]? = some t'→∃u,g (zan t')=some u∧u≤zao t'
 cnt':cnt≤c0+j
 wg:20*wgts (t::rest)≤20*W0+j*wgt t
 own:wr.ownsRow w2.heap.size 123 1 (.slice aL L.length cL) L.length (trF.all L)
 laid:∀t'∈L,Laid wr t'
 ne:∀k i,v.ownBlock=some k→(Value.slice aL L.length cL).ownBlock=some i→i≠k

theorem ze7 {L:List (List TN)} {g:Nat × Nat→Option Int} {j:Nat} {t:List TN} (h:∀(i:Nat) t',i < j→L[i]? = some t'→∃u,g (zan t')=some u∧u≤zao t') (ht:L[j]? = some t) {u:Int} (hu:g (zan t)=some u) (hl:u≤zao t):∀(i:Nat) t',i < j+1→L[i]? = some t'→∃u,g (zan t')=some u∧u≤zao t':=by
 intro i t' hi h2;by_cases e:i=j
 ·subst e;rw [ht] at h2;cases h2;exact ⟨u,hu,hl⟩
 ·exact h i t' (by omega) h2

theorem zgQ {L:List (List TN)} {g:Nat × Nat→Option Int} {j:Nat} {t:List TN} (h:∀(i:Nat) t',i < j→L[i]? = some t'→∃u,g (zan t')=some u∧u≤zao t') (ht:L[j]? = some t) (hs:∀u,g (zan t)=some u→zao t < u):∀(i:Nat) t',i < j+1→L[i]? = some t'→∃u,upd g (zan t) (some (zao t)) (zan t')=some u∧u≤zao t':=by
 refine ze7 (fun i t' hi h2 => ?_) ht (zaq _ _ _) (Int.le_refl _);obtain ⟨u,h3,h4⟩:=h i t' hi h2;obtain ⟨v',h5,h6⟩:=zgm (c:=zan t) (s:=zao t) h3 (fun x hx=>Int.le_of_lt (hs x hx));exact ⟨v',h5,by omega⟩

theorem LIn.stay {m:Nat} {E:Nat→Nat→Nat→Int→Prop} {b:Nat} {w2 wr w':World} {bm:Nat} {v:Value} {ha:Option Addr} {hc:Nat} {H:List HP} {t:List TN} {W0 c0:Nat} {aL:Option Addr} {cL:Nat} {L:List (List TN)} {j:Nat} {rest:List (List TN)} {g:Nat × Nat→Option Int} {cnt:Nat} (h:LIn m E b w2 wr bm v ha hc H t W0 c0 aL cL L j rest g cnt) (hb:Below wr.heap.size wr w') {t':List TN} (ht:L[j]? = some t') {u:Int} (hu:g (zan t')=some u) (hl:u≤zao t'):LIn m E b w2 w' bm v ha hc H t W0 c0 aL cL L (j+1) rest g cnt :=
 ⟨h.srch,h.mem.below hb,ze7 h.told ht hu hl,by have:=h.cnt'; omega,by have:=h.wg; rw [Nat.add_mul,Nat.one_mul]; omega,zi h.own hb,fun x hx=>(h.laid x hx).below hb,h.ne⟩

theorem LIn.more {m:Nat} {E:Nat→Nat→Nat→Int→Prop} {b:Nat} {w2 wr wM wB w':World} {bm:Nat} {v v':Value} {ha:Option Addr} {hc:Nat} {H:List HP} {t:List TN} {W0 c0:Nat} {aL:Option Addr} {cL:Nat} {L:List (List TN)} {j:Nat} {rest:List (List TN)} {g:Nat × Nat→Option Int} {cnt:Nat} (h:LIn m E b w2 wr bm v ha hc H t W0 c0 aL cL L j rest g cnt)
  {t':List TN} (ht:L[j]? = some t') (hok:TrOk m E b t') (hw:20*wgt t'=wgt t) (hs:∀u,g (zan t')=some u→zao t' < u)
  (hm:MapIs mS wM bm (cnt+1) (upd g (zan t') (some (zao t')))) (hg:wr.grownBy wM (some bm)) (hb:Below wM.heap.size wM wB)
  (hq:QG ptrT w' w2.heap.size 123 v' ((t::rest)++[t'])) (hgq:wB.grownBy w' v.ownBlock) (hv:v'.ownBlock=v.ownBlock∨v'.ownBlock=some wB.heap.size) :
  LIn m E b w2 w' bm v' ha hc H t W0 c0 aL cL L (j+1) (rest++[t']) (upd g (zan t') (some (zao t'))) (cnt+1):=by
 have oM:=zo h.own hg (zd3 h.own h.mem.map);have oB:=zi oM hb;have lM:∀x∈L,Laid wM x:=fun x hx=>zf6 h.mem.map hg (h.laid x hx)
 have m2:=(h.mem.store hm hg).below hb;have htL:=List.mem_of_getElem? ht;refine ⟨?_, ?_,zgQ h.told ht hs,by have:=h.cnt'; omega, ?_, ?_,fun x hx=>zcN m2.q hgq ((lM x hx).below hb), ?_⟩
 ·exact h.srch.push hok hs
 ·exact m2.push ((lM t' htL).below hb) hq hgq
 ·have:=h.wg
  rw [← List.cons_append,zhK,Nat.add_mul,Nat.one_mul];omega
 ·have hne:=h.ne;obtain ⟨gg,off,cap,cur,rfl,-⟩:=h.mem.q;exact zo oB hgq (fun i hi=>hne gg i rfl hi)
 ·intro k i hk hi;rcases hv with e | e
  ·rw [e] at hk;exact h.ne k i hk hi
  ·rw [e] at hk;cases hk
   have:=(oB.lt i hi).2
   omega

end Go.Proofs.YtkaefmfopejbaaaGreat
