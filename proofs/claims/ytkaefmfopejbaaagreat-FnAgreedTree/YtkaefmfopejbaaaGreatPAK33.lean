/-
  Packed: NetKeep SetNet StepIn.
-/
import Derived.Test.YtkaefmfopejbaaaGreatPAK32
namespace Go.Proofs.YtkaefmfopejbaaaGreat
set_option maxRecDepth 100000
set_option maxHeartbeats 16000000
open Go.RowKit

structure zeF (ls:List LK) (U:Int→Int→Option Bool) (k:Nat) (B B':BR):Prop where
 id:B'.id=B.id
 ok:zu B'=true
 len:B'.ports.length=B.ports.length
 port:∀(p:Nat) (x':PT),B'.ports[p]? = some x'→∃x,B.ports[p]? = some x∧x'.up=(U (k:Int) (p:Int)).getD x.up∧(x'.has=true→x.has=true∨usedL ls (k:Int) (p:Int)≠0)
structure Kept (ls:List LK) (U:Int→Int→Option Bool) (bs bs':List BR):Prop where
 len:bs'.length=bs.length
 at':∀(k:Nat) (B':BR),bs'[k]? = some B'→∃B,bs[k]? = some B∧zeF ls U k B B'

def noU:Int→Int→Option Bool:=fun _ _=>none
def atU (a p:Int) (up:Bool):Int→Int→Option Bool:=fun b q=>if b=a∧q=p then some up else none
def orU (U V:Int→Int→Option Bool):Int→Int→Option Bool:=fun b q=>(V b q).orElse (fun _=>U b q)

theorem zcC {ls:List LK} {k:Nat} {B:BR} (h:zu B=true):zeF ls noU k B B:=⟨rfl,h,rfl,fun _ x' hx=>⟨x',hx,rfl,.inl⟩⟩
theorem zkX {ls:List LK} {bs:List BR} (h:∀B∈bs,zu B=true):Kept ls noU bs bs:=⟨rfl,fun _ B hB=>⟨B,hB,zcC (h B (List.mem_of_getElem? hB))⟩⟩
theorem Kept.trans {ls:List LK} {U V:Int→Int→Option Bool} {a b c:List BR} (h:Kept ls U a b) (g:Kept ls V b c):Kept ls (orU U V) a c where
 len:=g.len.trans h.len
 at':=fun k B'' h2=>by
  obtain ⟨B',h1,g1⟩:=g.at' k B'' h2;obtain ⟨B,h0,g0⟩:=h.at' k B' h1;refine ⟨B,h0,g1.id.trans g0.id,g1.ok,g1.len.trans g0.len,fun p x'' hx'' => ?_⟩;obtain ⟨x',hx',e1,u1⟩:=g1.port p x'' hx'';obtain ⟨x,hx,e0,u0⟩:=g0.port p x' hx';refine ⟨x,hx, ?_,fun hh=>(u1 hh).elim u0 .inr⟩;rw [e1,e0];unfold orU;cases V (k:Int) (p:Int) <;> rfl
theorem orU_no:orU noU noU=noU:=rfl

theorem zhU {ls:List LK} {U:Int→Int→Option Bool} {bs bs':List BR} (h:Kept ls U bs bs') {b p:Int} {u:PT} (hu:zad bs b p=some u):∃u',zad bs' b p=some u'∧u'.up=(U b p).getD u.up:=by
 unfold zad at hu
 split at hu
 ·next hb =>
  cases hB:bs[b.toNat]? with
  | none=>rw [hB] at hu; cases hu
  | some B =>
   rw [hB] at hu;have hu:B.ports[p.toNat]? = some u:=hu;have hk:b.toNat < bs'.length:=by rw [h.len]; exact (List.getElem?_eq_some_iff.1 hB).1
   obtain ⟨B0,hB0,g⟩:=h.at' b.toNat _ (List.getElem?_eq_getElem hk);rw [hB] at hB0;cases hB0;have hp:p.toNat < (bs'[b.toNat]).ports.length:=by rw [g.len]; exact (List.getElem?_eq_some_iff.1 hu).1
   obtain ⟨x,hx,e,-⟩:=g.port p.toNat _ (List.getElem?_eq_getElem hp);rw [hu] at hx;cases hx;refine ⟨(bs'[b.toNat]).ports[p.toNat], ?_, ?_⟩;rotate_left
   ·rw [show ((b.toNat:Nat):Int)=b by omega,show ((p.toNat:Nat):Int)=p by omega] at e;exact e
   ·unfold zad;rw [if_pos hb,List.getElem?_eq_getElem hk];exact List.getElem?_eq_getElem hp
 ·cases hu

theorem zdk {ls:List LK} {U:Int→Int→Option Bool} {bs bs':List BR} {ss ss':List SY} (hU:∀y∈ls,U y.a y.p=U y.b y.q) (h:NetOk bs ls ss) (hk:Kept ls U bs bs') (hs:zcW ls ss'):NetOk bs' ls ss':=by
 obtain ⟨⟨h1,h2,h3,h4⟩,⟨l1,l2⟩,q,-⟩:=h;refine ⟨⟨fun x hx => ?_,fun i j x y hij hx hy => ?_,by rw [hk.len]; exact h3,by rw [hk.len]; exact h4⟩,⟨l1,fun x hx => ?_⟩,fun i B' hB' p x' hx' hh => ?_,hs⟩
 ·obtain ⟨k,hk2,rfl⟩:=List.mem_iff_getElem.1 hx;obtain ⟨B,-,g⟩:=hk.at' k _ (List.getElem?_eq_getElem hk2);exact g.ok
 ·obtain ⟨B,hB,g⟩:=hk.at' i x hx;obtain ⟨D,hD,g'⟩:=hk.at' j y hy;rw [g.id,g'.id];exact h2 i j B D hij hB hD
 ·obtain ⟨⟨hne,u,v,hu,hv,huv⟩,hc⟩:=l2 x hx;obtain ⟨u',hu',eu⟩:=zhU hk hu;obtain ⟨v',hv',ev⟩:=zhU hk hv;exact ⟨⟨hne,u',v',hu',hv',by rw [eu,ev,hU x hx,huv]⟩,hc⟩
 ·obtain ⟨B,hB,g⟩:=hk.at' i B' hB';obtain ⟨x,hx,-,hu⟩:=g.port p x' hx';rcases hu hh with h5 | h5
  ·exact q i B hB p x hx h5
  ·exact h5

theorem zbo {ls:List LK} {U:Int→Int→Option Bool} {bs:List BR} (h:∀B∈bs,zu B=true) {i:Nat} {f:BR→BR} (hn:∀k:Nat,k≠i→∀p,U (k:Int) p=none) (hf:∀B,bs[i]? = some B→zeF ls U i B (f B)):Kept ls U bs (atSet bs i f):=by
 have base:∀(k:Nat) (B:BR),bs[k]? = some B→k≠i→zeF ls U k B B:=fun k B hB hk=>⟨rfl,h B (List.mem_of_getElem? hB),rfl,fun p x hx=>⟨x,hx,by rw [hn k hk]; rfl,.inl⟩⟩
 unfold atSet
 split
 ·next B hB =>
  refine ⟨by simp,fun k B' hB' => ?_⟩;rw [List.getElem?_set] at hB'
  split at hB'
  ·next e =>
   subst e
   split at hB'
   ·cases hB';exact ⟨B,hB,hf B hB⟩
   ·cases hB'
  ·next e=>exact ⟨B',hB',base k B' hB' (fun h=>e h.symm)⟩
 ·next hB =>
  refine ⟨rfl,fun k B' hB'=>⟨B',hB',base k B' hB' (fun e => ?_)⟩⟩;subst e;rw [hB] at hB';cases hB'

theorem zcB {ls:List LK} {i:Nat} {B:BR} (h:zu B=true) (p:Int) (v:VD) (hu:usedL ls (i:Int) p≠0):zeF ls noU i B (hearB B p v):=by
 have h0:=zjh h p v;unfold hearB at *
 split
 ·next ht =>
  have hp:0≤p:=by
   unfold za4 at ht;simp only [Bool.and_eq_true,decide_eq_true_eq] at ht;exact ht.2.1
  split
  ·next x hx =>
   split
   ·next hc =>
    rw [if_pos ht,hx] at h0;dsimp only at h0;rw [if_pos hc] at h0;refine ⟨rfl,h0,by simp [turned],fun q x' hx' => ?_⟩;have hy':(B.ports.set p.toNat ⟨x.up,x.k,true,v⟩)[q]? = some x':=hx';rw [List.getElem?_set] at hy'
    split at hy'
    ·next e =>
     subst e;have e2:(⟨x.up,x.k,true,v⟩:PT)=x':=by simpa [(List.getElem?_eq_some_iff.1 hx).1] using hy'
     subst e2;exact ⟨x,hx,rfl,fun _=>.inr (by rw [show ((p.toNat:Nat):Int)=p by omega]; exact hu)⟩
    ·exact ⟨x',hy',rfl,.inl⟩
   ·exact zcC h
  ·exact zcC h
 ·exact zcC h

theorem ziA {ls:List LK} {i:Nat} {B:BR} (h:zu B=true):zeF ls noU i B (tickB B):=by
 have h0:=zms h;unfold tickB at *;rw [if_pos h] at *;exact ⟨rfl,h0,rfl,fun q x' hx'=>⟨x',hx',rfl,.inl⟩⟩

theorem zfv {ls:List LK} {i:Nat} {B:BR} (h:zu B=true) (j:Nat) (up:Bool) (hj:j < B.ports.length):zeF ls (atU (i:Int) (j:Int) up) i B (linkB B (j:Int) up):=by
 have h0:=zjm h (j:Int) up;have ht:za4 B (j:Int)=true:=by
  unfold za4;rw [h,decide_eq_true (show (0:Int)≤j by omega),decide_eq_true (show (j:Int)≤(B.ports.length:Int) - 1 by omega)]
  rfl
 unfold linkB at *;rw [if_pos ht,Int.toNat_natCast,List.getElem?_eq_getElem hj] at *;dsimp only at *;refine ⟨rfl,h0,by simp [turned],fun q x' hx' => ?_⟩;have hy':(B.ports.set j ⟨up,(B.ports[j]).k,false,⟨0,0,0,0,0⟩⟩)[q]? = some x':=hx';rw [List.getElem?_set] at hy'
 split at hy'
 ·next e =>
  subst e;have e2:(⟨up,(B.ports[j]).k,false,⟨0,0,0,0,0⟩⟩:PT)=x':=by simpa [hj] using hy'
  subst e2;exact ⟨_,List.getElem?_eq_getElem hj,by unfold atU; rw [if_pos ⟨rfl,rfl⟩]; rfl,fun e=>by cases e⟩
 ·next e =>
  refine ⟨x',hy', ?_,.inl⟩;unfold atU;rw [if_neg (fun hc=>e (by omega))]
  rfl

theorem zlk {B:BR} (h:zu B=true) (p:Int) (hp:0≤p∧p≤7):okVd (sayV B.id B.ports p)=true:=by
 have hid:=(zU h).2.1;have hid:1≤B.id∧B.id≤99:=by unfold in3 at hid; simpa using hid
 unfold okVd sayV okVc;simp only [Bool.and_eq_true,decide_eq_true_eq];cases hb:zO B.id B.ports with
 | none=>exact ⟨hid,⟨by simp [bestV],by simp [bestV]⟩,⟨by simp [bestV],by simp [bestV]⟩,hid,hp⟩
 | some fj =>
  obtain ⟨f,j⟩:=fj;obtain ⟨x,-,ho,rfl⟩:=zcw hb;obtain ⟨-,-,hs,-⟩:=zbp ho;unfold zb6 zaR at hs;simp only [Bool.and_eq_true,decide_eq_true_eq,okVc] at hs;simp only [bestV,stepV];omega

theorem zaK {bs:List BR} {b p:Int} {u:PT} (h:zad bs b p=some u):∃(i j:Nat) (B:BR),b=(i:Int)∧p=(j:Int)∧bs[i]? = some B∧B.ports[j]? = some u:=by
 unfold zad at h
 split at h
 ·next hb =>
  cases hB:bs[b.toNat]? with
  | none=>rw [hB] at h; cases h
  | some B =>
   rw [hB] at h;exact ⟨b.toNat,p.toNat,B,by omega,by omega,hB,h⟩
 ·cases h

theorem zll {bs:List BR} {ls:List LK} {ss:List SY} (h:NetOk bs ls ss) (b:Int):∀k,k≤ls.length→zcW ls (sayTo bs ls b ss k)
 | 0,_=>h.2.2.2
 | k+1,hk=>by
  have ih:=zll h b k (by omega)
  show zcW ls (zbL bs ls b (sayTo bs ls b ss k) k)
  unfold zbL
  split
  ·next x hx =>
   split
   ·next hc =>
    obtain ⟨⟨hne,u,v,hu,hv,-⟩,-⟩:=h.2.1.2 x (List.mem_of_getElem? hx);obtain ⟨i,j,A,ea,ep,hA,hpA⟩:=zaK hu;obtain ⟨i2,j2,D,eb,eq,hD,hpD⟩:=zaK hv;have okA:=h.1.1 A (List.mem_of_getElem? hA);have okD:=h.1.1 D (List.mem_of_getElem? hD);have lA:=(zU okA).2.2.2.1;have lD:=(zU okD).2.2.2.1;have lA:(A.ports.length:Int)≤6:=by unfold in3 at lA; simp at lA; omega
    have lD:(D.ports.length:Int)≤6:=by unfold in3 at lD; simp at lD; omega
    have jA:=(List.getElem?_eq_some_iff.1 hpA).1;have jD:=(List.getElem?_eq_some_iff.1 hpD).1;have add:∀(back:Bool) (vv:VD),okVd vv=true→zcW ls (sayTo bs ls b ss k++[⟨(k:Int),back,vv⟩]):=fun back vv hvv=>by
     refine ⟨by rw [List.length_append]; simp; omega,fun s hs => ?_⟩;rcases List.mem_append.1 hs with h1 | h1
     ·exact ih.2 s h1
     ·simp at h1
      rw [h1];exact ⟨by simp; omega,hvv⟩
    split
    ·refine add _ _ ?_;unfold sayAt;rw [ea,Int.toNat_natCast,hA];exact zlk okA _ (by omega)
    ·split
     ·refine add _ _ ?_;unfold sayAt;rw [eb,Int.toNat_natCast,hD];exact zlk okD _ (by omega)
     ·exact ih
   ·exact ih
  ·exact ih

theorem zlz {ls:List LK} {x:LK} (h:x∈ls):usedL ls x.a x.p≠0∧usedL ls x.b x.q≠0:=by
 unfold usedL;obtain ⟨h1,h2⟩:=zdY h;exact ⟨by have:=List.count_pos_iff.2 h1; omega,by have:=List.count_pos_iff.2 h2; omega⟩

theorem zbl {ls:List LK} (h:(endsL ls).Nodup) {x y:LK} (hx:x∈ls) (hy:y∈ls) (he:(y.a,y.p)=(x.a,x.p)∨(y.a,y.p)=(x.b,x.q)∨(y.b,y.q)=(x.a,x.p)∨(y.b,y.q)=(x.b,x.q)):y=x:=by
 induction ls with
 | nil=>cases hx
 | cons z l ih =>
  rw [zdX] at h;obtain ⟨h1,h2⟩:=List.nodup_cons.1 h;obtain ⟨h3,h4⟩:=List.nodup_cons.1 h2;rcases List.mem_cons.1 hx with ex | hx1 <;> rcases List.mem_cons.1 hy with ey | hy1
  ·rw [ex,ey]
  ·exfalso
   subst ex;obtain ⟨m1,m2⟩:=zdY hy1;rcases he with e | e | e | e
   ·exact h1 (List.mem_cons_of_mem _ (e▸m1))
   ·exact h3 (e▸m1)
   ·exact h1 (List.mem_cons_of_mem _ (e▸m2))
   ·exact h3 (e▸m2)
  ·exfalso
   subst ey;obtain ⟨m1,m2⟩:=zdY hx1;rcases he with e | e | e | e
   ·exact h1 (List.mem_cons_of_mem _ (e▸m1))
   ·exact h1 (List.mem_cons_of_mem _ (e▸m2))
   ·exact h3 (e▸m1)
   ·exact h3 (e▸m2)
  ·exact ih h4 hx1 hy1

theorem zj3 {bs:List BR} {ls:List LK} {ss:List SY} (h:NetOk bs ls ss) (k:Nat) (up:Bool):NetOk (zc6 bs ls k up) ls ss:=by
 unfold zc6
 split
 ·exact h
 ·split
  ·next x hx =>
   have hxm:=List.mem_of_getElem? hx;have hnd:=((za1 bs ls).1 h.2.1).2.2;obtain ⟨⟨hne,u,v,hu,hv,-⟩,-⟩:=h.2.1.2 x hxm;obtain ⟨i,j,A,ea,ep,hA,hpA⟩:=zaK hu;obtain ⟨i2,j2,D,eb,eq,hD,hpD⟩:=zaK hv;have hij:i2≠i:=fun e=>hne (by rw [ea,eb,e])
   have k1:Kept ls (atU x.a x.p up) bs (atSet bs x.a.toNat (fun B=>linkB B x.p up)):=by
    rw [ea,ep,Int.toNat_natCast];refine zbo h.1.1 (fun m hm p=>by unfold atU; rw [if_neg (fun hc=>hm (by omega))]) (fun B hB => ?_);rw [hA] at hB;cases hB;exact zfv (h.1.1 A (List.mem_of_getElem? hA)) j up (List.getElem?_eq_some_iff.1 hpA).1
   have ok1:∀B∈atSet bs x.a.toNat (fun B=>linkB B x.p up),zu B=true:=fun B hB=>by
    obtain ⟨m,hm,rfl⟩:=List.mem_iff_getElem.1 hB;obtain ⟨_,_,g⟩:=k1.at' m _ (List.getElem?_eq_getElem hm);exact g.ok
   have k2:Kept ls (atU x.b x.q up) (atSet bs x.a.toNat (fun B=>linkB B x.p up)) (atSet (atSet bs x.a.toNat (fun B=>linkB B x.p up)) x.b.toNat (fun B=>linkB B x.q up)):=by
    have hD2:(atSet bs x.a.toNat (fun B=>linkB B x.p up))[i2]? = some D:=by
     unfold atSet
     split
     ·rw [ea,Int.toNat_natCast,List.getElem?_set_ne (fun e=>hij e.symm)]; exact hD
     ·exact hD
    rw [eb,eq,Int.toNat_natCast];refine zbo ok1 (fun m hm p=>by unfold atU; rw [if_neg (fun hc=>hm (by omega))]) (fun B hB => ?_);rw [hD2] at hB;cases hB;exact zfv (h.1.1 D (List.mem_of_getElem? hD)) j2 up (List.getElem?_eq_some_iff.1 hpD).1
   refine zdk (fun y hy => ?_) h (k1.trans k2) h.2.2.2;unfold orU atU;by_cases e:y=x
   ·rw [e]
    simp [hne]
   ·rw [if_neg (fun hc=>e (zbl hnd hxm hy (.inr (.inl (by rw [hc.1,hc.2]))))),if_neg (fun hc=>e (zbl hnd hxm hy (.inl (by rw [hc.1,hc.2])))),if_neg (fun hc=>e (zbl hnd hxm hy (.inr (.inr (.inr (by rw [hc.1,hc.2])))))),if_neg (fun hc=>e (zbl hnd hxm hy (.inr (.inr (.inl (by rw [hc.1,hc.2]))))))]
  ·exact h

theorem zjZ {bs:List BR} {ls:List LK} {ss:List SY} (h:NetOk bs ls ss) (kd:Int) (k:Nat):NetOk (zfk bs ls ss kd k) ls ss:=by
 unfold zfk
 split
 ·unfold zcV
  split
  ·unfold zjg
   split
   ·next s hs hc x hx =>
    have hu:=zlz (List.mem_of_getElem? hx);obtain ⟨⟨hne,u,v,hpu,hpv,-⟩,-⟩:=h.2.1.2 x (List.mem_of_getElem? hx);obtain ⟨i,j,A,ea,ep,hA,hpA⟩:=zaK hpu;obtain ⟨i2,j2,D,eb,eq,hD,hpD⟩:=zaK hpv
    split
    ·refine zdk (U:=noU) (fun _ _=>rfl) h (zbo h.1.1 (fun _ _ _=>rfl) (fun B hB => ?_)) h.2.2.2;exact zcB (h.1.1 B (List.mem_of_getElem? hB)) _ _ (by rw [show ((x.a.toNat:Nat):Int)=x.a by omega]; exact hu.1)
    ·refine zdk (U:=noU) (fun _ _=>rfl) h (zbo h.1.1 (fun _ _ _=>rfl) (fun B hB => ?_)) h.2.2.2;exact zcB (h.1.1 B (List.mem_of_getElem? hB)) _ _ (by rw [show ((x.b.toNat:Nat):Int)=x.b by omega]; exact hu.2)
   ·exact h
  ·exact h
 ·exact h

theorem zkk {bs:List BR} {ls:List LK} {ss:List SY} (h:NetOk bs ls ss) (kd a:Int):NetOk (stepB bs ls ss kd a) ls (stepS bs ls ss kd a):=by
 have hS:zcW ls (stepS bs ls ss kd a):=by
  unfold stepS
  split
  ·exact zll h a ls.length (Nat.le_refl _)
  ·split
   ·refine ⟨?_,fun s hs=>h.2.2.2.2 s ?_⟩
    ·have h1:=h.2.2.2.1;simp only [List.length_append,List.length_take,List.length_drop];omega
    ·rcases List.mem_append.1 hs with h1 | h1
     ·exact List.mem_of_mem_take h1
     ·exact List.mem_of_mem_drop h1
   ·exact h.2.2.2
 have hB:NetOk (stepB bs ls ss kd a) ls ss:=by
  unfold stepB
  split
  ·exact zdk (U:=noU) (fun _ _=>rfl) h (zbo h.1.1 (fun _ _ _=>rfl) (fun B hB=>ziA (h.1.1 B (List.mem_of_getElem? hB)))) h.2.2.2
  ·split
   ·exact zjZ h kd a.toNat
   ·split
    ·exact zj3 h a.toNat _
    ·exact h
 exact ⟨hB.1,hB.2.1,hB.2.2.1,hS⟩

theorem zhb {a b:List BR × List LK × List SY} {kd i:Int} {q:Bool} (h:StepR a kd i b q) (ha:NetOk a.1 a.2.1 a.2.2):NetOk b.1 b.2.1 b.2.2:=by
 by_cases ht:zbB a.1 a.2.1 a.2.2 kd i
 ·obtain ⟨-,e1,e2⟩:=h.yes ha ht;rw [e1,h.l,e2];exact zkk ha kd i
 ·obtain ⟨-,e1,e2⟩:=h.no (fun hc=>ht hc.2);rw [e1,h.l,e2];exact ha

def Hears (bs:List BR) (ls:List LK) (K u p v q:Nat):Prop:=∃(κ:Nat) (x:LK),κ < K∧ls[κ]? = some x∧zT bs ls (κ:Int)=true∧(x=⟨(u:Int),(p:Int),(v:Int),(q:Int)⟩∨x=⟨(v:Int),(q:Int),(u:Int),(p:Int)⟩)

structure RdPt (b0:List BR) (ls:List LK) (K u p:Nat) (y0 y:PT):Prop where
 up:y.up=y0.up
 k:y.k=y0.k
 yes:∀v q,Hears b0 ls K u p v q→y.has=true∧y.v=sayAt b0 (v:Int) (q:Int)
 no:(∀v q,¬Hears b0 ls K u p v q)→y=y0
structure RdBr (b0:List BR) (ls:List LK) (K u:Nat) (B0 B:BR):Prop where
 id:B.id=B0.id
 ok:zu B=true
 len:B.ports.length=B0.ports.length
 port:∀(p:Nat) (y0:PT),B0.ports[p]? = some y0→∃y,B.ports[p]? = some y∧RdPt b0 ls K u p y0 y
structure zi2 (b0:List BR) (ls:List LK) (K:Nat) (bs:List BR):Prop where
 len:bs.length=b0.length
 kept:Kept ls noU b0 bs
 at':∀(u:Nat) (B0:BR),b0[u]? = some B0→∃B,bs[u]? = some B∧RdBr b0 ls K u B0 B

theorem zkQ {B:BR} (h:zu B=true) {j:Nat} {y:PT} (hy:B.ports[j]? = some y) (hu:y.up=true) {v:VD} (hv:okVd v=true):(hearB B (j:Int) v).id=B.id∧(hearB B (j:Int) v).ports=B.ports.set j ⟨true,y.k,true,v⟩:=by
 have hj:=(List.getElem?_eq_some_iff.1 hy).1;have ht:za4 B (j:Int)=true:=by
  unfold za4;rw [h,decide_eq_true (show (0:Int)≤j by omega),decide_eq_true (show (j:Int)≤(B.ports.length:Int) - 1 by omega)]
  rfl
 unfold hearB;rw [if_pos ht,Int.toNat_natCast,hy];dsimp only;rw [hu,hv];exact ⟨rfl,rfl⟩

theorem zh2 {α:Type} {l:List α} {i j:Nat} {y z:α} (hy:l[j]? = some y):(l.set i z)[j]? = some (if i=j then z else y):=by
 rw [List.getElem?_set]
 split
 ·next e =>
  rw [if_pos (by rw [e]; exact (List.getElem?_eq_some_iff.1 hy).1)]
 ·exact hy

theorem zhj {l:List BR} {i:Nat} {B:BR} (h:l[i]? = some B) (f:BR→BR):atSet l i f=l.set i (f B):=by
 unfold atSet;rw [h]

theorem znb {b0:List BR} {ls:List LK} {ss:List SY} (h:NetOk b0 ls ss):zi2 b0 ls 0 b0 :=
 ⟨rfl,zkX h.1.1,fun u B0 hB=>⟨B0,hB,rfl,h.1.1 B0 (List.mem_of_getElem? hB),rfl,fun p y0 hy=>⟨y0,hy,rfl,rfl,fun v q hh=>by obtain ⟨κ,x,hc,-⟩:=hh; omega,fun _=>rfl⟩⟩⟩

theorem zgn {b0:List BR} {ls:List LK} {K u p v q:Nat} (h:Hears b0 ls K u p v q):Hears b0 ls (K+1) u p v q:=by
 obtain ⟨κ,x,h1,h2⟩:=h;exact ⟨κ,x,by omega,h2⟩

theorem zfJ {b0:List BR} {ls:List LK} {ss:List SY} (h:NetOk b0 ls ss) {i p:Nat} {A:BR} {y:PT} (hA:b0[i]? = some A) (hy:A.ports[p]? = some y):okVd (sayAt b0 (i:Int) (p:Int))=true∧sayAt b0 (i:Int) (p:Int)=sayV A.id A.ports (p:Int):=by
 have e:sayAt b0 (i:Int) (p:Int)=sayV A.id A.ports (p:Int):=by unfold sayAt; rw [Int.toNat_natCast,hA]
 have hok:=h.1.1 A (List.mem_of_getElem? hA);have h6:=(zU hok).2.2.2.1;unfold in3 at h6;simp only [Bool.and_eq_true,decide_eq_true_eq] at h6
 have:=(List.getElem?_eq_some_iff.1 hy).1
 rw [e];exact ⟨zlk hok _ (by omega),rfl⟩

theorem zna {b0:List BR} {ls:List LK} {ss:List SY} (h:NetOk b0 ls ss) {K:Nat} {bs:List BR} (r:zi2 b0 ls K bs) {x:LK} (hx:ls[K]? = some x):zi2 b0 ls (K+1) (zbf b0 ls bs K):=by
 unfold zbf;rw [hx];dsimp only;by_cases hup:zT b0 ls (K:Int)=true
 ·rw [if_pos hup];obtain ⟨i,ip,j,jq,A,D,pA,pD,rfl,hA,hD,hpA,hpD⟩:=zbx hx hup;have hxm:=List.mem_of_getElem? hx;have hnd:=((za1 b0 ls).1 h.2.1).2.2;obtain ⟨⟨hne,-⟩,-⟩:=h.2.1.2 _ hxm;have hij:i≠j:=fun e=>hne (by show (i:Int)=(j:Int); omega)
  have hups:pA.up=true∧pD.up=true:=by
   unfold zT at hup;rw [if_pos (by omega),Int.toNat_natCast,hx] at hup;dsimp only at hup;unfold upAt at hup;rw [zcH hA hpA,zcH hD hpD] at hup
   simpa using hup
  obtain ⟨sA,eA⟩:=zfJ h hA hpA;obtain ⟨sD,eD⟩:=zfJ h hD hpD;dsimp only;rw [Int.toNat_natCast,Int.toNat_natCast];obtain ⟨A1,hA1,rA⟩:=r.at' i A hA;obtain ⟨D1,hD1,rD⟩:=r.at' j D hD;obtain ⟨yA,hyA,qA⟩:=rA.port ip pA hpA;obtain ⟨yD,hyD,qD⟩:=rD.port jq pD hpD;have hu:=zlz hxm;have k1:Kept ls noU bs (atSet bs i (fun B=>hearB B (ip:Int) (sayAt b0 (j:Int) (jq:Int)))):=by
   refine zbo (fun B hB => ?_) (fun _ _ _=>rfl) (fun B hB => ?_)
   ·obtain ⟨m,hm,rfl⟩:=List.mem_iff_getElem.1 hB;obtain ⟨_,_,g⟩:=r.kept.at' m _ (List.getElem?_eq_getElem hm);exact g.ok
   ·rw [hA1] at hB;cases hB;exact zcB rA.ok _ _ hu.1
  have e1:=zhj hA1 (fun B=>hearB B (ip:Int) (sayAt b0 (j:Int) (jq:Int)));rw [e1] at k1 ⊢;have hD2:(bs.set i (hearB A1 (ip:Int) (sayAt b0 (j:Int) (jq:Int))))[j]? = some D1:=by rw [zh2 hD1,if_neg hij]
  have k2:Kept ls noU (bs.set i (hearB A1 (ip:Int) (sayAt b0 (j:Int) (jq:Int)))) (atSet (bs.set i (hearB A1 (ip:Int) (sayAt b0 (j:Int) (jq:Int)))) j (fun B=>hearB B (jq:Int) (sayAt b0 (i:Int) (ip:Int)))):=by
   refine zbo (fun B hB => ?_) (fun _ _ _=>rfl) (fun B hB => ?_)
   ·obtain ⟨m,hm,rfl⟩:=List.mem_iff_getElem.1 hB;obtain ⟨_,_,g⟩:=k1.at' m _ (List.getElem?_eq_getElem hm);exact g.ok
   ·rw [hD2] at hB;cases hB;exact zcB rD.ok _ _ hu.2
  have e2:=zhj hD2 (fun B=>hearB B (jq:Int) (sayAt b0 (i:Int) (ip:Int)));rw [e2] at k2 ⊢;have hk:=(r.kept.trans k1).trans k2;obtain ⟨idA,ptA⟩:=zkQ rA.ok hyA (by rw [qA.up]; exact hups.1) sD;obtain ⟨idD,ptD⟩:=zkQ rD.ok hyD (by rw [qD.up]; exact hups.2) sA;have hearsA:Hears b0 ls (K+1) i ip j jq:=⟨K,_,by omega,hx,hup,.inl rfl⟩;have hearsD:Hears b0 ls (K+1) j jq i ip:=⟨K,_,by omega,hx,hup,.inr rfl⟩
  -- who hears by one link more
  have oneA:∀v q,Hears b0 ls (K+1) i ip v q→v=j∧q=jq:=by
   rintro v q ⟨κ,y,-,hy,-,hc⟩;have e:=zbl hnd hxm (List.mem_of_getElem? hy) (by rcases hc with rfl | rfl <;> simp);subst e;rcases hc with hc | hc
   ·simp only [LK.mk.injEq] at hc; omega
   ·simp only [LK.mk.injEq] at hc; omega
  have oneD:∀v q,Hears b0 ls (K+1) j jq v q→v=i∧q=ip:=by
   rintro v q ⟨κ,y,-,hy,-,hc⟩;have e:=zbl hnd hxm (List.mem_of_getElem? hy) (by rcases hc with rfl | rfl <;> simp);subst e;rcases hc with hc | hc
   ·simp only [LK.mk.injEq] at hc; omega
   ·simp only [LK.mk.injEq] at hc; omega
  have other:∀u p v q,¬(u=i∧p=ip)→¬(u=j∧p=jq)→Hears b0 ls (K+1) u p v q→Hears b0 ls K u p v q:=by
   rintro u p v q n1 n2 ⟨κ,y,hκ,hy,hl,hc⟩;rcases Nat.lt_or_ge κ K with hlt | hge
   ·exact ⟨κ,y,hlt,hy,hl,hc⟩
   ·have e:κ=K:=by omega
    subst e;rw [hx] at hy;cases hy;rcases hc with hc | hc
    ·simp only [LK.mk.injEq] at hc; exact absurd (by omega) n1
    ·simp only [LK.mk.injEq] at hc; exact absurd (by omega) n2
  have stay:∀(u p:Nat) (y0 y:PT),¬(u=i∧p=ip)→¬(u=j∧p=jq)→RdPt b0 ls K u p y0 y→RdPt b0 ls (K+1) u p y0 y:=fun u p y0 y n1 n2 g =>
   ⟨g.up,g.k,fun v q hh=>g.yes v q (other u p v q n1 n2 hh),fun hh=>g.no (fun v q hc=>hh v q (zgn hc))⟩
  refine ⟨hk.len,hk,fun u B0 hB0 => ?_⟩;obtain ⟨B,hB,rB⟩:=r.at' u B0 hB0;have hok:∀B',((bs.set i (hearB A1 (ip:Int) (sayAt b0 (j:Int) (jq:Int)))).set j (hearB D1 (jq:Int) (sayAt b0 (i:Int) (ip:Int))))[u]? = some B'→zu B'=true:=fun B' hB'=>by
   obtain ⟨_,_,g⟩:=hk.at' u B' hB';exact g.ok
  have h1:(bs.set i (hearB A1 (ip:Int) (sayAt b0 (j:Int) (jq:Int))))[u]? = some (if i=u then hearB A1 (ip:Int) (sayAt b0 (j:Int) (jq:Int)) else B):=zh2 hB;have h2:=zh2 (i:=j) (z:=hearB D1 (jq:Int) (sayAt b0 (i:Int) (ip:Int))) h1;refine ⟨_,h2, ?_⟩;have ok2:=hok _ h2;by_cases eu:j=u
  ·subst eu;rw [if_pos rfl] at ok2 ⊢;rw [hD] at hB0;cases hB0;refine ⟨idD.trans rD.id,ok2,by rw [ptD,List.length_set]; exact rD.len,fun p y0 hy0 => ?_⟩;obtain ⟨y,hy,g⟩:=rD.port p y0 hy0;rw [ptD,zh2 hy];by_cases ep:jq=p
   ·subst ep;rw [hpD] at hy0;cases hy0;rw [hyD] at hy;cases hy;rw [if_pos rfl];refine ⟨_,rfl,hups.2.symm,g.k,fun v q hh => ?_,fun hh=>absurd hearsD (hh _ _)⟩;obtain ⟨rfl,rfl⟩:=oneD v q hh;exact ⟨rfl,rfl⟩
   ·rw [if_neg ep];exact ⟨y,rfl,stay _ _ _ _ (fun hc=>hij hc.1.symm) (fun hc=>ep hc.2.symm) g⟩
  ·rw [if_neg eu] at ok2 ⊢;by_cases ei:i=u
   ·subst ei;rw [if_pos rfl] at ok2 ⊢;rw [hA] at hB0;cases hB0;refine ⟨idA.trans rA.id,ok2,by rw [ptA,List.length_set]; exact rA.len,fun p y0 hy0 => ?_⟩;obtain ⟨y,hy,g⟩:=rA.port p y0 hy0;rw [ptA,zh2 hy];by_cases ep:ip=p
    ·subst ep;rw [hpA] at hy0;cases hy0;rw [hyA] at hy;cases hy;rw [if_pos rfl];refine ⟨_,rfl,hups.1.symm,g.k,fun v q hh => ?_,fun hh=>absurd hearsA (hh _ _)⟩;obtain ⟨rfl,rfl⟩:=oneA v q hh;exact ⟨rfl,rfl⟩
    ·rw [if_neg ep];exact ⟨y,rfl,stay _ _ _ _ (fun hc=>ep hc.2.symm) (fun hc=>eu hc.1.symm) g⟩
   ·rw [if_neg ei] at ok2 ⊢;refine ⟨rB.id,ok2,rB.len,fun p y0 hy0 => ?_⟩;obtain ⟨y,hy,g⟩:=rB.port p y0 hy0;exact ⟨y,hy,stay _ _ _ _ (fun hc=>ei hc.1.symm) (fun hc=>eu hc.1.symm) g⟩
 ·rw [if_neg hup];refine ⟨r.len,r.kept,fun u B0 hB0 => ?_⟩;obtain ⟨B,hB,rB⟩:=r.at' u B0 hB0;refine ⟨B,hB,rB.id,rB.ok,rB.len,fun p y0 hy0 => ?_⟩;obtain ⟨y,hy,g⟩:=rB.port p y0 hy0;have back:∀v q,Hears b0 ls (K+1) u p v q→Hears b0 ls K u p v q:=by
   rintro v q ⟨κ,z,hκ,hz,hl,hc⟩;rcases Nat.lt_or_ge κ K with hlt | hge
   ·exact ⟨κ,z,hlt,hz,hl,hc⟩
   ·have e:κ=K:=by omega
    subst e;exact absurd hl hup
  exact ⟨y,hy,g.up,g.k,fun v q hh=>g.yes v q (back v q hh),fun hh=>g.no (fun v q hc=>hh v q (zgn hc))⟩

theorem zhX {b0:List BR} {ls:List LK} {ss:List SY} (h:NetOk b0 ls ss):∀K,K≤ls.length→zi2 b0 ls K (za7 b0 ls K)
 | 0,_=>znb h
 | K+1,hK=>zna h (zhX h K (by omega)) (List.getElem?_eq_getElem (by omega))

theorem zdP {bs:List BR} {ls:List LK} {ss:List SY} (h:NetOk bs ls ss):NetOk (za7 bs ls ls.length) ls [] :=
 zdk (U:=noU) (fun _ _=>rfl) h (zhX h ls.length (Nat.le_refl _)).kept ⟨by simp,by simp⟩

def za2 (bs:List BR) (ls:List LK):Nat→List BR
 | 0=>bs
 | t+1=>za7 (za2 bs ls t) ls ls.length

theorem zcI {bs:List BR} {ls:List LK} {ss:List SY} (h:NetOk bs ls ss):∀t,∃ss',NetOk (za2 bs ls t) ls ss'
 | 0=>⟨ss,h⟩
 | t+1=>by
  obtain ⟨ss',h'⟩:=zcI h t;exact ⟨[],zdP h'⟩

theorem zct (bs:List BR) (ls:List LK):∀t,(za2 bs ls t).map upsB=bs.map upsB
 | 0=>rfl
 | t+1=>(zb2 _ ls _).trans (zct bs ls t)

theorem zfl {bs bs':List BR} (e:bs.map upsB=bs'.map upsB) {ls:List LK} {K u p v q:Nat} (h:Hears bs ls K u p v q):Hears bs' ls K u p v q:=by
 obtain ⟨κ,x,h1,h2,h3,h4⟩:=h;exact ⟨κ,x,h1,h2,by rw [← zex e]; exact h3,h4⟩

structure Fast (u:Nat) (B0 B:BR):Prop where
 id:B.id=B0.id
 len:B.ports.length=B0.ports.length
 port:∀(p:Nat) (y0:PT),B0.ports[p]? = some y0→∃y,B.ports[p]? = some y∧y.up=y0.up∧y.k=y0.k

theorem zdQ {bs:List BR} {ls:List LK} {ss:List SY} (h:NetOk bs ls ss) {u:Nat} {B0:BR} (hB:bs[u]? = some B0):∀t,∃B,(za2 bs ls t)[u]? = some B∧Fast u B0 B
 | 0=>⟨B0,hB,rfl,rfl,fun p y0 hy=>⟨y0,hy,rfl,rfl⟩⟩
 | t+1=>by
  obtain ⟨B,hB1,f⟩:=zdQ h hB t;obtain ⟨ss',h'⟩:=zcI h t;obtain ⟨B',hB',r⟩:=(zhX h' ls.length (Nat.le_refl _)).at' u B hB1;refine ⟨B',hB',r.id.trans f.id,r.len.trans f.len,fun p y0 hy0 => ?_⟩;obtain ⟨y,hy,e1,e2⟩:=f.port p y0 hy0;obtain ⟨y',hy',g⟩:=r.port p y hy;exact ⟨y',hy',g.up.trans e1,g.k.trans e2⟩

theorem zkd {bs:List BR} {ls:List LK} (t:Nat):(za2 bs ls t).length=bs.length:=ziY (zct bs ls t)

def knowT (B:BR):T3:=⟨(bestV B.id (zO B.id B.ports)).r,(bestV B.id (zO B.id B.ports)).c,(bestV B.id (zO B.id B.ports)).h⟩
def idAt (bs:List BR) (u:Nat):Int:=match bs[u]? with
 | some B=>B.id
 | none=>0
def zca (bs:List BR) (u:Nat):T3:=match bs[u]? with
 | some B=>knowT B
 | none=>⟨0,0,0⟩
def EdgeB (bs:List BR) (ls:List LK) (u v q:Nat) (k:Int):Prop:=∃(p:Nat) (B:BR) (y:PT),Hears bs ls ls.length u p v q∧bs[u]? = some B∧B.ports[p]? = some y∧y.k=k

theorem zbF {B:BR} (h:zu B=true) {p:Nat} {y:PT} (hy:B.ports[p]? = some y):ptOk y=true∧p < 6∧B.ports.length≤6:=by
 have h1:=(zU h).1;have h2:=(zU h).2.2.2.1;unfold in3 at h2;simp only [Bool.and_eq_true,decide_eq_true_eq] at h2
 have:=(List.getElem?_eq_some_iff.1 hy).1
 exact ⟨List.all_eq_true.1 h1 y (List.mem_of_getElem? hy),by omega,by omega⟩

theorem zaM {bs:List BR} {ls:List LK} {K u p v q:Nat} (h:Hears bs ls K u p v q):∃(A D:BR) (pA pD:PT),bs[u]? = some A∧bs[v]? = some D∧A.ports[p]? = some pA∧D.ports[q]? = some pD:=by
 obtain ⟨κ,x,-,hx,hup,hc⟩:=h;obtain ⟨i,ip,j,jq,A,D,pA,pD,rfl,hA,hD,hpA,hpD⟩:=zbx hx hup;rcases hc with hc | hc
 ·simp only [LK.mk.injEq] at hc;obtain ⟨e1,e2,e3,e4⟩:=hc;have e1:i=u:=by omega
  have e2:ip=p:=by omega
  have e3:j=v:=by omega
  have e4:jq=q:=by omega
  subst e1 e2 e3 e4;exact ⟨A,D,pA,pD,hA,hD,hpA,hpD⟩
 ·simp only [LK.mk.injEq] at hc;obtain ⟨e1,e2,e3,e4⟩:=hc;have e1:i=v:=by omega
  have e2:ip=q:=by omega
  have e3:j=u:=by omega
  have e4:jq=p:=by omega
  subst e1 e2 e3 e4;exact ⟨D,A,pD,pA,hD,hA,hpD,hpA⟩

theorem zhN {bs:List BR} {ls:List LK} {ss:List SY} (h:NetOk bs ls ss):Gr bs.length (idAt bs) (EdgeB bs ls) where
 lt:=by
  rintro u v q k ⟨p,B,y,hh,hB,-⟩;obtain ⟨A,D,-,-,hA,hD,-⟩:=zaM hh;exact ⟨(List.getElem?_eq_some_iff.1 hA).1,(List.getElem?_eq_some_iff.1 hD).1⟩
 cost:=by
  rintro u v q k ⟨p,B,y,-,hB,hy,rfl⟩
  have:=(zbF (h.1.1 B (List.mem_of_getElem? hB)) hy).1
  unfold ptOk at this;simp only [Bool.and_eq_true,decide_eq_true_eq] at this;exact this.1
 apart:=by
  intro u v hu hv e;unfold idAt at e;rw [List.getElem?_eq_getElem hu,List.getElem?_eq_getElem hv] at e;dsimp only at e;rcases Nat.lt_trichotomy u v with hl | hl | hl
  ·exact absurd e (h.1.2.1 u v _ _ hl (List.getElem?_eq_getElem hu) (List.getElem?_eq_getElem hv))
  ·exact hl
  ·exact absurd e.symm (h.1.2.1 v u _ _ hl (List.getElem?_eq_getElem hv) (List.getElem?_eq_getElem hu))
 port:=by
  rintro u v q k ⟨p,B,y,hh,-⟩;obtain ⟨A,D,-,pD,-,hD,-,hpD⟩:=zaM hh
  have:=zbF (h.1.1 D (List.mem_of_getElem? hD)) hpD
  omega
 pos:=by
  intro u hu;unfold idAt;rw [List.getElem?_eq_getElem hu]
  have:=(zU (h.1.1 _ (List.getElem_mem hu))).2.1
  unfold in3 at this;simp only [Bool.and_eq_true,decide_eq_true_eq] at this
  show 0≤(bs[u]).id
  omega
 six:=h.1.2.2.2

theorem zht {bs:List BR} {ls:List LK} {ss:List SY} (h:NetOk bs ls ss) {u p:Nat} {B:BR} {y:PT} (hB:bs[u]? = some B) (hy:B.ports[p]? = some y) (hu:y.up=true) (hh:y.has=true):∃v q,Hears bs ls ls.length u p v q:=by
 have hne:=h.2.2.1 u B hB p y hy hh;unfold usedL at hne;have hm:((u:Int),(p:Int))∈endsL ls:=List.count_pos_iff.1 (by omega);obtain ⟨x,hx,he⟩:=List.mem_flatMap.1 hm;obtain ⟨κ,hκ,rfl⟩:=List.mem_iff_getElem.1 hx;obtain ⟨⟨-,a,d,ha,hd,hud⟩,-⟩:=h.2.1.2 _ hx;have hxx:=List.getElem?_eq_getElem hκ;have up:∀c,(c=a∨c=d)→c.up=true→zT bs ls (κ:Int)=true:=fun c hc hcu=>by
  unfold zT;rw [if_pos (by omega),Int.toNat_natCast,hxx];dsimp only;unfold upAt;rw [ha,hd];dsimp only;rcases hc with rfl | rfl
  ·rw [← hud,hcu]; rfl
  ·rw [hud,hcu]; rfl
 obtain ⟨i,ip,A,ea,ep,hA,hpA⟩:=zaK ha;obtain ⟨j,jq,D,eb,eq,hD,hpD⟩:=zaK hd;generalize hgx:ls[κ]=x at *;obtain ⟨xa,xp,xb,xq⟩:=x;dsimp only at ea ep eb eq;subst ea ep eb eq;simp only [List.mem_cons,Prod.mk.injEq,List.not_mem_nil,or_false] at he;rcases he with ⟨e1,e2⟩ | ⟨e1,e2⟩
 ·have e1:u=i:=by omega
  have e2:p=ip:=by omega
  subst e1 e2;rw [hB] at hA;cases hA;rw [hy] at hpA;cases hpA;exact ⟨j,jq,κ,_,hκ,hxx,up y (.inl rfl) hu,.inl rfl⟩
 ·have e1:u=j:=by omega
  have e2:p=jq:=by omega
  subst e1 e2;rw [hB] at hD;cases hD;rw [hy] at hpD;cases hpD;exact ⟨i,ip,κ,_,hκ,hxx,up y (.inr rfl) hu,.inr rfl⟩

theorem zea (B:BR) (p:Int):sayV B.id B.ports p=⟨(knowT B).r,(knowT B).c,(knowT B).h,B.id,p⟩:=rfl

theorem zjj {bs:List BR} {ls:List LK} {K u p v q:Nat} (h:Hears bs ls K u p v q) {A:BR} {y:PT} (hA:bs[u]? = some A) (hy:A.ports[p]? = some y):y.up=true:=by
 obtain ⟨κ,x,-,hx,hup,hc⟩:=h;unfold zT at hup;rw [if_pos (by omega),Int.toNat_natCast,hx] at hup;dsimp only at hup;rw [Bool.and_eq_true] at hup;rcases hc with rfl | rfl
 ·have:=hup.1
  unfold upAt at this;rw [zcH hA hy] at this;exact this
 ·have:=hup.2
  unfold upAt at this;rw [zcH hA hy] at this;exact this

theorem zk0 {f g:VD} {d d':Nat} (hd:f.p=(d:Int)) (hd':g.p=(d':Int)) (h:lessV f g=false):¬lex4 f.r f.c f.b d g.r g.c g.b d':=by
 unfold lessV zaL at h;unfold lex4;simp only [bne_iff_ne,ne_eq,ite_not] at h
 repeat' split at h
 all_goals simp at h
 all_goals omega

theorem zl9 {bs:List BR} {ls:List LK} {ss:List SY} (h:NetOk bs ls ss):Runs bs.length (idAt bs) (EdgeB bs ls) (fun t u=>zca (za2 bs ls t) u) where
 first:=by
  intro u hu
  show zca bs u=_∨1≤(zca bs u).h
  unfold zca idAt;rw [List.getElem?_eq_getElem hu];dsimp only;unfold knowT;cases hb:zO (bs[u]).id (bs[u]).ports with
  | none=>exact .inl rfl
  | some fj =>
   obtain ⟨f,j⟩:=fj;obtain ⟨x,-,ho,rfl⟩:=zcw hb;obtain ⟨-,-,hs,-⟩:=zbp ho;unfold zb6 zaR okVc at hs;simp only [Bool.and_eq_true,decide_eq_true_eq] at hs
   right
   show 1≤x.v.h+1
   omega
 ten:=by
  intro u hu
  show (zca bs u).h≤10
  unfold zca;rw [List.getElem?_eq_getElem hu];dsimp only;unfold knowT;cases hb:zO (bs[u]).id (bs[u]).ports with
  | none=>show (0:Int)≤10; omega
  | some fj =>
   obtain ⟨f,j⟩:=fj;obtain ⟨x,-,ho,rfl⟩:=zcw hb;obtain ⟨-,-,hs,-⟩:=zbp ho;unfold zb6 zaR okVc at hs;simp only [Bool.and_eq_true,decide_eq_true_eq] at hs
   show x.v.h+1≤10
   omega
 next:=by
  intro t u hu;obtain ⟨ss',h'⟩:=zcI h t;have hR:=zhX h' ls.length (Nat.le_refl _);have h2:NetOk (za2 bs ls (t+1)) ls []:=zdP h';obtain ⟨B,hB,f⟩:=zdQ h (List.getElem?_eq_getElem hu) t;obtain ⟨B',hB',r⟩:=hR.at' u B hB;have eid:idAt bs u=B'.id:=by
   unfold idAt;rw [List.getElem?_eq_getElem hu];exact (r.id.trans f.id).symm
  have eT:zca (za2 bs ls (t+1)) u=knowT B':=by
   unfold zca;rw [show (za2 bs ls (t+1))[u]? = some B' from hB']
  -- what is heard at a port
  have heard:∀{p v q:Nat} {y:PT},Hears bs ls ls.length u p v q→B'.ports[p]? = some y→∃D,(za2 bs ls t)[v]? = some D∧idAt bs v=D.id∧zca (za2 bs ls t) v=knowT D∧y.up=true∧y.has=true∧y.v=sayV D.id D.ports (q:Int)∧okVd y.v=true∧EdgeB bs ls u v q y.k:=by
   intro p v q y hh hy;have hh':=zfl (zct bs ls t).symm hh;obtain ⟨A,D,pA,pD,hA,hD,hpA,hpD⟩:=zaM hh';rw [hB] at hA;cases hA;obtain ⟨y',hy',g⟩:=r.port p pA hpA;rw [hy] at hy';cases hy';obtain ⟨g1,g2⟩:=g.yes v q hh';obtain ⟨s1,s2⟩:=zfJ h' hD hpD;have hv:v < bs.length:=by have:=(List.getElem?_eq_some_iff.1 hD).1; rw [zkd] at this; exact this
   obtain ⟨D',hD',fD⟩:=zdQ h (List.getElem?_eq_getElem hv) t;rw [hD] at hD';cases hD';have hp0:p < (bs[u]).ports.length:=by rw [← f.len]; exact (List.getElem?_eq_some_iff.1 hpA).1
   obtain ⟨y1,hy1,e1,e2⟩:=f.port p _ (List.getElem?_eq_getElem hp0);rw [hpA] at hy1;cases hy1;refine ⟨D,hD, ?_, ?_, ?_,g1,by rw [g2,s2],by rw [g2]; exact s1,p,_,_,hh,List.getElem?_eq_getElem hu,List.getElem?_eq_getElem hp0, ?_⟩
   ·unfold idAt; rw [List.getElem?_eq_getElem hv]; exact fD.id.symm
   ·unfold zca; rw [hD]
   ·rw [g.up]; exact zjj hh' hB hpA
   ·rw [g.k,e2]
  -- who is offered offers
  have offer:∀{T:T3} {b:Int} {q:Nat},Off (idAt bs) (EdgeB bs ls) (fun u=>zca (za2 bs ls t) u) u T b q→∃(p:Nat) (y:PT),B'.ports[p]? = some y∧offers B'.id y=true∧stepV y.v y.k=⟨T.r,T.c,T.h,b,(q:Int)⟩:=by
   rintro ⟨tr,tc,th⟩ b q ⟨v,k,⟨p,B0,y0,hh,hB0,hy0,rfl⟩,rfl,e1,e2,e3,l1,l2,l3⟩;dsimp only at e1 e2 e3 l1 l2 l3;rw [List.getElem?_eq_getElem hu] at hB0;cases hB0;have hp0:=(List.getElem?_eq_some_iff.1 hy0).1;have hp':p < B'.ports.length:=by rw [r.len,f.len]; exact hp0
   have hy:=List.getElem?_eq_getElem hp';obtain ⟨D,hD,d1,d2,d3,d4,d5,d6,-⟩:=heard hh hy;obtain ⟨y1,hy1,-,f2⟩:=f.port p y0 hy0;obtain ⟨y',hy',g⟩:=r.port p y1 hy1;rw [hy] at hy';cases hy';have hk:(B'.ports[p]).k=y0.k:=g.k.trans f2;have hc:=(zbF r.ok hy).1;unfold ptOk at hc;simp only [Bool.and_eq_true,decide_eq_true_eq] at hc;rw [d2] at e1 e2 e3;refine ⟨p,_,hy, ?_, ?_⟩
   ·unfold offers zb6 zaR;rw [d3,d4];unfold okVd at d6;rw [d6];rw [d5,zea] at d6 ⊢;dsimp only at d6 ⊢;unfold okVc at d6 ⊢;simp only [Bool.and_eq_true,decide_eq_true_eq,Bool.true_and] at d6 ⊢;omega
   ·rw [d5,zea,hk];unfold stepV;dsimp only;rw [e1,e2,e3,d1]
  show Nx (idAt bs) (EdgeB bs ls) (fun u=>zca (za2 bs ls t) u) u (zca (za2 bs ls (t+1)) u)
  rw [eT];cases hb:zO B'.id B'.ports with
  | none =>
   refine .inl ⟨by unfold knowT; rw [hb,eid]; rfl,fun T b q ho => ?_⟩;obtain ⟨p,y,hy,hof,-⟩:=offer ho;obtain ⟨f,j,hf,-⟩:=zes (k:=B'.ports.length) (List.getElem?_eq_some_iff.1 hy).1 hy hof
   have:zO B'.id B'.ports=some (f,j):=hf
   rw [hb] at this;cases this
  | some fj =>
   obtain ⟨f,j⟩:=fj;obtain ⟨y,hy,ho,rfl⟩:=zcw hb;obtain ⟨o1,o2,o3,o4⟩:=zbp ho;obtain ⟨v,q,hh2⟩:=zht h2 hB' hy o1 o2;have hh:=zfl (zct bs ls (t+1)) hh2;obtain ⟨D,hD,d1,d2,-,-,d5,-,d7⟩:=heard hh hy;have eK:knowT B'=⟨y.v.r,y.v.c+y.k,y.v.h+1⟩:=by unfold knowT; rw [hb]; rfl
   rw [eK];have hpv:y.v.p=(q:Int):=by rw [d5]; rfl
   have hbv:y.v.b=D.id:=by rw [d5]; rfl
   refine .inr ⟨idAt bs v,q,⟨v,y.k,d7,rfl, ?_, ?_, ?_,by rw [eid]; exact o4, ?_, ?_⟩,fun T b' q' ho' => ?_⟩
   ·dsimp only; rw [d2,d5]; rfl
   ·dsimp only; rw [d2,d5]; rfl
   ·dsimp only; rw [d2,d5]; rfl
   ·unfold zb6 zaR okVc at o3;simp only [Bool.and_eq_true,decide_eq_true_eq] at o3
    show y.v.c+y.k≤100000
    omega
   ·unfold zb6 zaR okVc at o3;simp only [Bool.and_eq_true,decide_eq_true_eq] at o3
    show y.v.h+1≤10
    omega
   ·obtain ⟨p',y',hy',hof',e'⟩:=offer ho';obtain ⟨f,j',hf,hl⟩:=zes (k:=B'.ports.length) (List.getElem?_eq_some_iff.1 hy').1 hy' hof'
    have:zO B'.id B'.ports=some (f,j'):=hf
    rw [hb] at this;cases this;rw [e'] at hl
    have:=zk0 (d:=q') (d':=q) rfl (show (stepV y.v y.k).p=(q:Int) from hpv) hl
    rw [d1,← hbv];exact this

theorem BOs.boxedI {w w':World} {base:Nat} {ao:Option Addr} {n cap:Nat} {l:List BV} (h:BOs w base ao n cap l) {X:Nat} {cs:Array Value} (hX:w.heap[X]? = some (.cells cs 59)) (hg:w.grownBy w' (some X)):BOs w' base ao n cap l :=
 ⟨zt h.row hg (zA h.row hX (by decide)),fun x hx=>(h.item x hx).other hX (by decide) (by decide) (by decide) (by decide) hg,h.apart⟩

theorem NOwn.boxedI {w w':World} {base:Nat} {M:NV} (h:NOwn w base M) {X:Nat} {cs:Array Value} (hX:w.heap[X]? = some (.cells cs 59)) (hg:w.grownBy w' (some X)):NOwn w' base M :=
 ⟨h.b.boxedI hX hg,zt h.l hg (zA h.l hX (by decide)),zt h.s hg (zA h.s hX (by decide))⟩

structure NiSt (w:World) (base X:Nat) (M:NV):Prop where
 box:w.heap[X]? = some (.cells #[.slice M.ba M.bn M.bc,.slice M.la M.ln M.lc,.slice M.sa M.sn M.sc] 59)
 own:NOwn w base M
 le:base≤X

theorem NiSt.later {w w':World} {base X:Nat} {M:NV} (h:NiSt w base X M) (hb:Below w.heap.size w w'):NiSt w' base X M:=⟨za h.box hb,h.own.below hb,h.le⟩
theorem NiSt.size {w:World} {base X:Nat} {M:NV} (h:NiSt w base X M):base≤w.heap.size:=by have h1:=zaX h.box; have h2:=h.le; omega

theorem NiSt.put {w w1 w2:World} {base X g:Nat} {M:NV} {pre post:List BV} {x y:BV} (h:NiSt w base X M) (hba:M.ba=some ⟨g,0,none⟩) (hbs:M.bs=pre++x::post) (hb:Below w.heap.size w w1) (hy:y.Own w1 w.heap.size) (hg:w1.grownBy w2 (some g)) (hr:w2.ownsRow base 44 11 (.slice (some ⟨g,0,none⟩) M.bn M.bc) M.bn (brF.all (pre++y::post))) :
  NiSt w2 base X { M with bs:=pre++y::post }∧Below base w w2:=by
 have ob:BOs w base (some ⟨g,0,none⟩) M.bn M.bc (pre++x::post):=by have:=h.own.b; rw [hba,hbs] at this; exact this
 have hp:=ob.put hb hy h.size hg hr;have hrw:=(ob.below hb).row;have k1:=ze (za h.box hb) hg (fun k hk=>zA hrw (za h.box hb) (by decide) k hk);have ol:=zD (zh h.own.l hb) hrw (by decide) (v2:=.slice (some ⟨g,0,none⟩) M.bn M.bc) hg;have os:=zD (zh h.own.s hb) hrw (by decide) (v2:=.slice (some ⟨g,0,none⟩) M.bn M.bc) hg;have b1:Below base w w1:=hb.mono h.size;refine ⟨⟨k1,⟨by rw [hba]; exact hp,ol,os⟩,h.le⟩,b1.grown hg (Nat.le_trans h.size hb.size) (by intro k e; cases e; exact (ob.row.lt g rfl).1)⟩

theorem NiSt.pushS {w w1 w2:World} {base X:Nat} {M:NV} {s:SY} (h:NiSt w base X M) (hb:Below w.heap.size w w1) (hg:w1.grownBy w2 (Value.slice M.sa M.sn M.sc).ownBlock) {ao':Option Addr} {cap':Nat} (hr:w2.ownsRow base 99 7 (.slice ao' (M.sn+1) cap') (M.sn+1) (sayF.all (M.ss++[s]))) :
  w2.heap[X]? = some (.cells #[.slice M.ba M.bn M.bc,.slice M.la M.ln M.lc,.slice M.sa M.sn M.sc] 59)∧NiSt (w2.setCell ⟨X,2,none⟩ (.slice ao' (M.sn+1) cap')) base X { M with sa:=ao',sn:=M.sn+1,sc:=cap',ss:=M.ss++[s] }∧Below base w (w2.setCell ⟨X,2,none⟩ (.slice ao' (M.sn+1) cap')):=by
 have h1:=h.later hb;have hrw:=h1.own.s;have k1:=ze h1.box hg (fun k hk=>zA hrw h1.box (by decide) k hk);have ob:=h1.own.b.typed hrw hg;have ol:=zD h1.own.l hrw (by decide) hg;have hgx:w2.grownBy (w2.setCell ⟨X,2,none⟩ (.slice ao' (M.sn+1) cap')) (some X):=zj 2 _;have nb:=NOwn.boxedI (M:={ M with sa:=ao',sn:=M.sn+1,sc:=cap',ss:=M.ss++[s] }) ⟨ob,ol,hr⟩ k1 hgx;have b1:Below base w w1:=hb.mono h.size;have b2:=b1.grown hg (Nat.le_trans h.size hb.size) (by intro k hk; exact (hrw.lt k hk).1);have hle:=h.le;refine ⟨k1,⟨?_,nb,h.le⟩,b2.grown hgx (by have:=zaX k1; omega) (by intro k e; cases e; omega)⟩
 have:=zB (j:=2) k1 (.slice ao' (M.sn+1) cap')
 simpa using this

theorem NiSt.saidNew {w w1:World} {base X:Nat} {M:NV} (h:NiSt w base X M) (hb:Below w.heap.size w w1) {ao:Option Addr} {n cap:Nat} {ss:List SY} (hr:w1.ownsRow base 99 7 (.slice ao n cap) n (sayF.all ss)) :
  w1.heap[X]? = some (.cells #[.slice M.ba M.bn M.bc,.slice M.la M.ln M.lc,.slice M.sa M.sn M.sc] 59)∧NiSt (w1.setCell ⟨X,2,none⟩ (.slice ao n cap)) base X { M with sa:=ao,sn:=n,sc:=cap,ss:=ss }∧Below base w (w1.setCell ⟨X,2,none⟩ (.slice ao n cap)):=by
 have h1:=h.later hb;have k1:=h1.box;have hgx:w1.grownBy (w1.setCell ⟨X,2,none⟩ (.slice ao n cap)) (some X):=zj 2 _;have nb:=NOwn.boxedI (M:={ M with sa:=ao,sn:=n,sc:=cap,ss:=ss }) ⟨h1.own.b,h1.own.l,hr⟩ k1 hgx;have b1:Below base w w1:=hb.mono h.size;have hle:=h.le;refine ⟨k1,⟨?_,nb,h.le⟩,b1.grown hgx (by have:=zaX k1; omega) (by intro k e; cases e; omega)⟩
 have:=zB (j:=2) k1 (.slice ao n cap)
 simpa using this

theorem NiSt.push {w w1 w2:World} {base X:Nat} {M:NV} (h:NiSt w base X M) (hb:Below w.heap.size w w1) {y:BV} (hy:y.Own w1 w.heap.size) (hg:w1.grownBy w2 (Value.slice M.ba M.bn M.bc).ownBlock) {ao':Option Addr} {cap':Nat} (hr:w2.ownsRow base 44 11 (.slice ao' (M.bn+1) cap') (M.bn+1) (brF.all (M.bs++[y]))) :
  w2.heap[X]? = some (.cells #[.slice M.ba M.bn M.bc,.slice M.la M.ln M.lc,.slice M.sa M.sn M.sc] 59)∧NiSt (w2.setCell ⟨X,0,none⟩ (.slice ao' (M.bn+1) cap')) base X { M with ba:=ao',bn:=M.bn+1,bc:=cap',bs:=M.bs++[y] }∧Below base w (w2.setCell ⟨X,0,none⟩ (.slice ao' (M.bn+1) cap')):=by
 have hp:=h.own.b.push hb hy h.size hg hr;have ho:=(h.own.below hb).rows hg hp;have hrw:=(h.own.b.below hb).row;have k1:=ze (za h.box hb) hg (fun k hk=>zA hrw (za h.box hb) (by decide) k hk);have b1:Below base w w1:=hb.mono h.size;have b2:=b1.grown hg (Nat.le_trans h.size hb.size) (by intro k hk; exact (hrw.lt k hk).1);have hgx:w2.grownBy (w2.setCell ⟨X,0,none⟩ (.slice ao' (M.bn+1) cap')) (some X):=zj 0 _;have hle:=h.le;refine ⟨k1,⟨?_,ho.boxedI k1 hgx,hle⟩,b2.grown hgx (by have:=zaX k1; omega) (by intro k e; cases e; omega)⟩
 have:=zB (j:=0) k1 (.slice ao' (M.bn+1) cap')
 simpa using this

theorem zjR (ao:Option Addr) (n cap:Nat) (l:List SY) (w:World) (h:GRow sayF w ao n cap l) (hn:n≤16777216) :
  Calls Tryz.prog 45 #[.slice ao n cap] w fun r w'=>∃ao' cap',r=.returned (.slice ao' n cap')∧w'.ownsRow w.heap.size 99 7 (.slice ao' n cap') n (sayF.all l)∧Below w.heap.size w w':=by
 cases ao with
 | none =>
  have hc0:=h.nil rfl;have hn0:n=0:=by have:=h.le; omega
  subst hc0 hn0;have hl:l=[]:=List.eq_nil_of_length_eq_zero h.size;subst hl;have heq:∀W,(binOp .eql 26 (.slice none 0 0) (.slice none 0 0)).run Tryz.prog W=.ok (.bool true) W:=fun _=>by kernel_rfl
  go_enter Tryz.func45,Tryz.ntmps45;go_wp2;go_ret;exact ⟨none,0,rfl,World.ownsRow_nil _ _ _ _,Below.refl _ _⟩
 | some a =>
  have heq:∀W,(binOp .eql 26 (.slice (some a) n cap) (.slice none 0 0)).run Tryz.prog W=.ok (.bool false) W:=fun _=>by kernel_rfl
  go_enter Tryz.func45,Tryz.ntmps45;go_wp2_with (at_builtin; refine zK (F:=sayF) _ rfl _ _ 26 99 rfl w.heap.size Tryz.underlying26 zW rfl (by decide) _ 0 [] rfl (zaG sayF w _ 99 w.heap.size (zy w _) (Nat.le_refl _)) (some a) n cap l rfl (h.below (zl _ _)) (by omega) (by simp) ?_)
  intro ao' cap' w' how hr hgr hb;have how:w'.ownsRow w.heap.size 99 7 (.slice ao' n cap') n (sayF.all l):=how;have HO:=hide how;have HB:=hide ((zl w _).trans hb);clear how hgr hb hr;go_wp2;go_ret;exact ⟨ao',cap',(by simp),HO.out,HB.out⟩

end Go.Proofs.YtkaefmfopejbaaaGreat
