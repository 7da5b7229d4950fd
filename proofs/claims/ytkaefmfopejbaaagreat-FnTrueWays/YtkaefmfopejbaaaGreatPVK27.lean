/-
  Packed: TrueMath DistI DrawNt5 NetNewS.
-/
import Derived.Test.YtkaefmfopejbaaaGreatPVK26
import Derived.Test.YtkaefmfopejbaaaGreatPVNetNewT
namespace Go.Proofs.YtkaefmfopejbaaaGreat
set_option maxRecDepth 100000
set_option maxHeartbeats 16000000
open Go.RowKit

theorem zdf {bs:List BR} {ls:List LK} {ss:List SY} (h:NetOk bs ls ss) {u p:Nat} {B:BR} {y:PT} {o q:Int} (hb:zaN ls (u:Int) (p:Int)=some (o,q)) (hB:bs[u]? = some B) (hy:B.ports[p]? = some y) (hup:y.up=true):∃v r:Nat,o=(v:Int)∧q=(r:Int)∧Hears bs ls ls.length u p v r:=by
 unfold zaN at hb;obtain ⟨x,hx,he⟩:=List.exists_of_findSome?_eq_some hb;obtain ⟨κ,hκ⟩:=List.getElem?_of_mem hx;have hkl:=(List.getElem?_eq_some_iff.1 hκ).1;obtain ⟨-,pu,pv,h1,h2,h3⟩:=(h.2.1.2 x hx).1;have e0:zM bs (u:Int) (p:Int)=some y:=by
  unfold zM;rw [if_pos (by omega),Int.toNat_natCast,Int.toNat_natCast,hB];exact hy
 have hpos:∀{a b:Int} {z:PT},zM bs a b=some z→0≤a∧0≤b:=fun {a b z} hz=>by
  unfold zM at hz
  split at hz
  ·next hc=>exact hc
  ·cases hz
 have a1:=hpos h1;have a2:=hpos h2;unfold zax at he
 split at he
 ·next hc =>
  obtain ⟨c1,c2⟩:=hc;cases he;rw [c1,c2,e0] at h1;cases h1;have hl:zQ bs ls (κ:Int)=true:=by
   unfold zQ;rw [if_pos (by omega),Int.toNat_natCast,hκ];dsimp only;unfold upAt;rw [c1,c2,e0,h2];dsimp only;rw [← h3,hup]
   rfl
  refine ⟨x.b.toNat,x.q.toNat,by omega,by omega,κ,x,hkl,hκ,hl,.inl ?_⟩;cases x;simp only [LK.mk.injEq] at *;omega
 ·split at he
  ·next hc =>
   obtain ⟨c1,c2⟩:=hc;cases he;rw [c1,c2,e0] at h2;cases h2;have hl:zQ bs ls (κ:Int)=true:=by
    unfold zQ;rw [if_pos (by omega),Int.toNat_natCast,hκ];dsimp only;unfold upAt;rw [c1,c2,e0,h1];dsimp only;rw [h3,hup]
    rfl
   refine ⟨x.a.toNat,x.p.toNat,by omega,by omega,κ,x,hkl,hκ,hl,.inr ?_⟩;cases x;simp only [LK.mk.injEq] at *;omega
  ·cases he

theorem zcV {bs:List BR} {ls:List LK} {ss:List SY} (h:NetOk bs ls ss) {u p v q:Nat} (hh:Hears bs ls ls.length u p v q):zaN ls (u:Int) (p:Int)=some ((v:Int),(q:Int))∧∃B y,bs[u]? = some B∧B.ports[p]? = some y∧y.up=true:=by
 obtain ⟨A,D,pA,pD,hA,hD,hpA,hpD⟩:=zbo hh;have hup:=zh1 hh hA hpA;refine ⟨?_,A,pA,hA,hpA,hup⟩;cases hb:zaN ls (u:Int) (p:Int) with
 | none =>
  exfalso
  have h0:=(zfk ls (u:Int) (p:Int)).1 hb;obtain ⟨κ,x,hκ,hx,-,hc⟩:=hh;have hu:=zhH (List.mem_of_getElem? hx);rcases hc with rfl | rfl
  ·exact hu.1 h0
  ·exact hu.2 h0
 | some o =>
  obtain ⟨o1,o2⟩:=o;obtain ⟨v',q',rfl,rfl,h2⟩:=zdf h hb hA hpA hup;obtain ⟨rfl,rfl⟩:=zcr h hh h2
  rfl

theorem zg0 {bs:List BR} {ls:List LK} {u v q:Nat} {k:Int} (he:EdgeB bs ls u v q k):∃p k',EdgeB bs ls v u p k':=by
 obtain ⟨p,B,y,hh,-⟩:=he;obtain ⟨A,D,pA,pD,hA,hD,hpA,hpD⟩:=zbo hh;exact ⟨p,pD.k,q,D,pD,zgx hh,hD,hpD,rfl⟩

theorem zdI {bs:List BR} {ls:List LK} {z:Nat}:∀{h u:Nat} {c:Int},Wlk (EdgeB bs ls) z h u c→Rch bs.length ls (upTo bs ls ls.length) (u:Int) (z:Int)
 | 0,u,c,hw=>by
  obtain ⟨rfl,-⟩:=hw;exact fun S h1 _=>h1
 | h+1,u,c,hw=>by
  obtain ⟨v,q,k,c',hv,⟨p,B,y,hh,-⟩,rfl⟩:=hw;intro S h1 h2;refine zdI hv S ?_ h2;obtain ⟨A,D,-,-,hA,hD,-,-⟩:=zbo hh;have hu:inB bs.length (u:Int)=true:=zaH.2 ⟨by omega,by have:=(List.getElem?_eq_some_iff.1 hA).1; omega⟩;have hv:inB bs.length (v:Int)=true:=zaH.2 ⟨by omega,by have:=(List.getElem?_eq_some_iff.1 hD).1; omega⟩;obtain ⟨κ,x,hκ,hx,hup,hc⟩:=hh;have hm:(κ:Int)∈upTo bs ls ls.length:=zgl.2 ⟨κ,rfl,hκ,hup⟩;have hl:zbU ls (κ:Int)=some x:=by
   unfold zbU;rw [if_pos (by omega),Int.toNat_natCast];exact hx
  have:=h2 _ hm _ hl
  rcases hc with rfl | rfl
  ·exact this.1 h1 hv
  ·exact this.2 h1 hv

theorem zfy {bs:List BR} {ls:List LK} {u:Nat} {z:Int} (h:Rch bs.length ls (upTo bs ls ls.length) (u:Int) z):∃y:Nat,z=(y:Int)∧∃h c,Wlk (EdgeB bs ls) y h u c:=by
 refine h (fun s=>∃y:Nat,s=(y:Int)∧∃h c,Wlk (EdgeB bs ls) y h u c) ⟨u,rfl,0,0,rfl,rfl⟩ (fun k hk x hx => ?_);obtain ⟨κ,rfl,hκ,hup⟩:=zgl.1 hk;have hx:ls[κ]? = some x:=by
  unfold zbU at hx;rw [if_pos (by omega),Int.toNat_natCast] at hx;exact hx
 obtain ⟨i,ip,j,jq,A,D,pA,pD,rfl,hA,hD,hpA,hpD⟩:=zcw hx hup;refine ⟨fun ⟨y,e,hh,c,hw⟩ _ => ?_,fun ⟨y,e,hh,c,hw⟩ _ => ?_⟩
 ·have e:i=y:=Int.ofNat.inj e;subst e;exact ⟨j,rfl,hh+1,c+pA.k,zcH hw ⟨ip,A,pA,⟨κ,_,hκ,hx,hup,.inl rfl⟩,hA,hpA,rfl⟩⟩
 ·have e:j=y:=Int.ofNat.inj e;subst e;exact ⟨i,rfl,hh+1,c+pD.k,zcH hw ⟨jq,D,pD,⟨κ,_,hκ,hx,hup,.inr rfl⟩,hD,hpD,rfl⟩⟩

structure Rooted (bs:List BR) (ls:List LK) (u x:Nat) (X:BR) (c:Int):Prop where
 at':bs[x]? = some X
 root:zcy bs ls bs.length (u:Int)=X.id
 least:Least (EdgeB bs ls) x u c
 low:∀y h c',Wlk (EdgeB bs ls) y h u c'→X.id≤idAt bs y

theorem zaB {bs:List BR} {y:Nat} {Y:BR} (h:bs[y]? = some Y):idAt bs y=Y.id∧idOf bs (y:Int)=Y.id:=by
 unfold idAt idOf;rw [Int.toNat_natCast,h];exact ⟨rfl,rfl⟩

theorem zcY {bs:List BR} {ls:List LK} {ss:List SY} (h:NetOk bs ls ss) {u:Nat} {A:BR} (hA:bs[u]? = some A):∃x X c,Rooted bs ls u x X c:=by
 have g:=zd1 h;have hul:=(List.getElem?_eq_some_iff.1 hA).1;have hu:inB bs.length (u:Int)=true:=zaH.2 ⟨by omega,by omega⟩;have hin:∀z,z∈joined bs.length ls (u:Int) (upTo bs ls ls.length)↔Rch bs.length ls (upTo bs ls ls.length) (u:Int) z∧0≤z∧z < (bs.length:Int):=fun z=>by
  unfold joined;rw [if_pos hu,zcs,ziA hu]
 have hlow:∀y hh c',Wlk (EdgeB bs ls) y hh u c'→zcy bs ls bs.length (u:Int)≤idAt bs y:=by
  intro y hh c' hw;by_cases hy:y < bs.length
  ·have hm:=(hin (y:Int)).2 ⟨zdI hw,by omega,by omega⟩;obtain ⟨i,hi,e⟩:=List.mem_iff_getElem.1 hm
   have:=(ze1 bs (idOf bs (u:Int)) (joined bs.length ls (u:Int) (upTo bs ls ls.length)) (joined bs.length ls (u:Int) (upTo bs ls ls.length)).length).2 i (y:Int) hi (by rw [List.getElem?_eq_getElem hi,e])
   rw [(zaB (List.getElem?_eq_getElem hy)).2] at this;rw [(zaB (List.getElem?_eq_getElem hy)).1];exact this
  ·exfalso
   cases hh with
   | zero=>obtain ⟨rfl,-⟩:=hw; omega
   | succ hh =>
    have:∀{j v:Nat} {cc:Int},Wlk (EdgeB bs ls) y j v cc→v < bs.length→y < bs.length:=fun {j}=>by
     induction j with
     | zero=>intro v cc hw hv; obtain ⟨rfl,-⟩:=hw; exact hv
     | succ j ih =>
      intro v cc hw _;obtain ⟨v',q,k,c2,hv',he,rfl⟩:=hw;exact ih hv' (g.lt _ _ _ _ he).2
    exact hy (this hw hul)
 rcases ze0 bs (idOf bs (u:Int)) (joined bs.length ls (u:Int) (upTo bs ls ls.length)) (joined bs.length ls (u:Int) (upTo bs ls ls.length)).length with e | ⟨z,hz,e⟩
 ·have e2:zcy bs ls bs.length (u:Int)=A.id:=by
   unfold zcy;rw [e];exact (zaB hA).2
  exact ⟨u,A,0,hA,e2,zcO g u,by rw [← e2]; exact hlow⟩
 ·obtain ⟨h1,h2,h3⟩:=(hin z).1 hz;obtain ⟨y,rfl,hh,c,hw⟩:=zfy h1;have hy:y < bs.length:=by omega
  obtain ⟨c',hl,-⟩:=zfC g hw;have e2:zcy bs ls bs.length (u:Int)=(bs[y]).id:=by
   unfold zcy;rw [e];exact (zaB (List.getElem?_eq_getElem hy)).2
  exact ⟨y,_,c',List.getElem?_eq_getElem hy,e2,hl,by rw [← e2]; exact hlow⟩

theorem zdx {bs:List BR} {ls:List LK} {ss:List SY} (h:NetOk bs ls ss) {u v x q:Nat} {X:BR} {c k:Int} (hr:Rooted bs ls u x X c) (he:EdgeB bs ls u v q k):∃c',Rooted bs ls v x X c'∧c≤c'+k:=by
 have g:=zd1 h;obtain ⟨D,hD⟩:∃D,bs[v]? = some D:=⟨_,List.getElem?_eq_getElem (g.lt _ _ _ _ he).2⟩;obtain ⟨x',X',c',hr'⟩:=zcY h hD;obtain ⟨⟨j,hj⟩,hjl⟩:=hr.least;obtain ⟨⟨i,hi⟩,hil⟩:=hr'.least;obtain ⟨p,k',he'⟩:=zg0 he;have h1:=hr'.low x (j+1) (c+k') ⟨u,p,k',c,hj,he',rfl⟩;have h2:=hr.low x' (i+1) (c'+k) ⟨v,q,k,c',hi,he,rfl⟩;rw [(zaB hr.at').1] at h1;rw [(zaB hr'.at').1] at h2;have e:x'=x:=g.apart x' x (List.getElem?_eq_some_iff.1 hr'.at').1 (List.getElem?_eq_some_iff.1 hr.at').1 (by rw [(zaB hr.at').1,(zaB hr'.at').1]; omega);subst e;have hX:=hr.at';rw [hr'.at'] at hX;cases hX;exact ⟨c',hr',hjl (i+1) (c'+k) ⟨v,q,k,c',hi,he,rfl⟩⟩

theorem zfJ {bs:List BR} {ls:List LK} {ss:List SY} (h:NetOk bs ls ss) {u x:Nat} {X:BR} {c:Int} (hr:Rooted bs ls u x X c) (hne:u≠x):∃v q k,EdgeB bs ls u v q k∧Rooted bs ls v x X (c - k):=by
 obtain ⟨⟨j,hj⟩,hjl⟩:=hr.least;cases j with
 | zero =>
  obtain ⟨rfl,-⟩:=hj;exact absurd rfl hne
 | succ j =>
  obtain ⟨v,q,k,c',hv,he,rfl⟩:=hj;obtain ⟨c2,hr2,hc2⟩:=zdx h hr he;have hb:=zbT (j:=j) hr.least he (by rw [show c'+k - k=c' by omega]; exact hv)
  have:=zbq hr2.least hb
  subst this;exact ⟨v,q,k,he,hr2⟩

theorem zcj {bs:List BR} {ls:List LK} {ss:List SY} (h:NetOk bs ls ss) {u x:Nat} {A X:BR} {c:Int} (hr:Rooted bs ls u x X c) (hA:bs[u]? = some A):(A.id=X.id↔u=x)∧(u=x→c=0)∧X.id≤A.id∧1≤X.id∧X.id≤99∧0≤c∧c≤100000:=by
 have g:=zd1 h;have hlow:=hr.low u 0 0 ⟨rfl,rfl⟩;rw [(zaB hA).1] at hlow;have hok:=(zK (h.1.1 X (List.mem_of_getElem? hr.at'))).2.1;unfold in3 at hok;simp only [Bool.and_eq_true,decide_eq_true_eq] at hok;have hlu:=(List.getElem?_eq_some_iff.1 hA).1;have hlx:=(List.getElem?_eq_some_iff.1 hr.at').1;obtain ⟨n,ht⟩:=zgS (id:=idAt bs) g c.toNat rfl hr.least;have h5:=zhD g hlx ht hlu;have hw:=zcl g (zgk ht);refine ⟨⟨fun e=>g.apart u x hlu hlx (by rw [(zaB hA).1,(zaB hr.at').1]; exact e),fun e => ?_⟩,fun e => ?_,hlow,by omega,by omega,hw.1,by omega⟩
 ·subst e;have hX:=hr.at';rw [hA] at hX;cases hX
  rfl
 ·subst e;exact zbq hr.least (zcO g u)

theorem zbQ (N:NV) (ss:List SY) (hok:NetOk N.brs N.ls ss) (u x:Nat) (X:BR) (c:Int) (w:World) (h:zac w N) (hu:u < N.bn) (hr:Rooted N.brs N.ls u x X c) :
  Calls Tryz.prog 17 #[.agg #[.slice N.ba N.bn N.bc,.slice N.la N.ln N.lc,.slice N.sa N.sn N.sc],.int .i64 (u:Int)] w fun e w'=>e=.returned (.int .i64 c)∧Below w.heap.size w w':=by
 have hle:=Nat.le_trans h.b.le h.b.top;unfold maxLen at hle;have hNL:N.brs.length=N.bn:=by rw [zbv]; exact h.b.size
 have h6:N.bn≤6:=by rw [← hNL]; exact hok.1.2.2.2
 have h9:N.ln≤9:=by rw [← h.l.size]; exact hok.2.1.1
 obtain ⟨y,bb,off,hy,hba,-⟩:=br_at h.b u hu;have hyB:=zb8 hy;have HF:=hide (zcj hok hr hyB);have HBA:=hide hba;have hrt:=fun W hW=>za8 N u W hW hu (by omega) (by omega)
 have hroot:=hr.root;rw [hNL] at hroot;rw [hroot] at hrt;have HR:=hide hr;clear hba hr hyB hroot hNL;generalize hw1:w.alloc (Obj.cells #[.slice N.ba N.bn N.bc,.slice N.la N.ln N.lc,.slice N.sa N.sn N.sc] 28)=w1;have b01:=zb hw1;have k1:=zk hw1;obtain ⟨x0,x1,x2⟩:=zd k1;go_enter Tryz.func17,Tryz.ntmps17;go_wp2_with fail
 refine (hrt _ (h.below b01)).mono ?_;rintro e w2 ⟨rfl,b12⟩;have b02:=zc b01 b12;have k2:=za k1 b12;clear x0 x1 x2 hw1 k1 b01 b12 hrt;obtain ⟨x0,x1,x2⟩:=zd k2;go_wp2_with fail
 refine (zbf N u bb off _ hle hu HBA.out).mono ?_;rintro e w3 ⟨rfl,b23⟩;have b03:=zc b02 b23;have k3:=za k2 b23;have y0:w3.cell? ⟨bb,off+u*11,none⟩=some (.int .i64 y.B.id):=by
  obtain ⟨y',bb',off',hy',hba',c0,-⟩:=br_at (h.below b03).b u hu;rw [hy] at hy';cases hy';rw [HBA.out] at hba';cases hba';exact c0
 clear x0 x1 x2 k2 b02 b23 hy;by_cases hux:u=x
 ·have hc0:=HF.out.2.1 hux;rw [HF.out.1.2 hux] at y0;subst hc0;have HB:=hide b03;clear k3 b03 hux;go_wp2;go_ret;exact ⟨rfl,HB.out⟩
 ·have hid:¬y.B.id=X.id:=fun e=>hux (HF.out.1.1 e)
  obtain ⟨x0,x1,x2⟩:=zd k3;clear hux;(go_wp2_with fail);refine (zeP N ss hok x u X c _ (h.below b03) hu HR.out.at' HR.out.least).mono ?_;rintro e w4 ⟨rfl,b34⟩;have HB:=hide (zc b03 b34);clear x0 x1 x2 y0 k3 b34 b03;go_wp2;go_ret;exact ⟨rfl,HB.out⟩

theorem zg8 (s:Int):∀(n i:Nat),i < n→(idsTo s n)[i]? = some (1+(s+(i:Int)*3) % 7)
 | 0,i,h=>absurd h (Nat.not_lt_zero _)
 | n+1,i,h=>by
  rw [idsTo];by_cases e:i=n
  ·subst e;rw [List.getElem?_append_right (by rw [za7]; exact Nat.le_refl _),za7,Nat.sub_self]
   rfl
  ·rw [List.getElem?_append_left (by rw [za7]; omega)];exact zg8 s n i (by omega)

theorem zjr {s:Int} {pp:Nat} {i:Nat} (hp:1≤pp∧pp≤6):zm (1+(s+(i:Int)*3) % 7) (pp:Int)=zR (1+(s+(i:Int)*3) % 7) pp:=by
 unfold zm;rw [if_pos (by simp; omega),Int.toNat_natCast]

theorem zhT {s:Int} {nn pp:Nat} {ls:List LK} (hn:1≤nn∧nn≤6) (hp:1≤pp∧pp≤6) (h:zcb nn pp ls):NetOk (newBs (idsTo s nn) (pp:Int)) ls []:=by
 have hlen:(newBs (idsTo s nn) (pp:Int)).length=nn:=by unfold newBs; rw [List.length_map,za7]
 have hat:∀i:Nat,i < nn→(newBs (idsTo s nn) (pp:Int))[i]? = some (zR (1+(s+(i:Int)*3) % 7) pp):=fun i hi=>by rw [zbB (zg8 s nn i hi),zjr hp]
 have hport:∀b p:Int,0≤b∧b < (nn:Int)→0≤p∧p < (pp:Int)→zM (newBs (idsTo s nn) (pp:Int)) b p=some newPt:=fun b p hb hq=>by
  unfold zM;rw [if_pos ⟨hb.1,hq.1⟩,hat b.toNat (by omega)]
  show (List.replicate pp newPt)[p.toNat]? = some newPt
  rw [List.getElem?_replicate,if_pos (by omega)]
 refine ⟨⟨fun x hx => ?_,fun i j x y hij hx hy => ?_,by rw [hlen]; exact hn.1,by rw [hlen]; exact hn.2⟩,(zdt _ _).2 ⟨h.len,fun x hx => ?_,h.nd⟩,fun i B hB p x hx hh => ?_,by simp,by intro s hs; cases hs⟩
 ·obtain ⟨i,hi,rfl⟩:=List.mem_iff_getElem.1 hx;rw [hlen] at hi
  have:=hat i hi
  rw [List.getElem?_eq_getElem (by rw [hlen]; exact hi)] at this;rw [Option.some.inj this];exact zep (by omega) hp
 ·have hj:j < nn:=by rw [← hlen]; exact (List.getElem?_eq_some_iff.1 hy).1
  rw [hat i (by omega)] at hx;rw [hat j hj] at hy;cases hx;cases hy
  show 1+(s+(i:Int)*3) % 7≠1+(s+(j:Int)*3) % 7
  omega
 ·obtain ⟨h1,h2,h3,h4,h5⟩:=h.at' x hx;exact ⟨h1,newPt,newPt,hport _ _ h2 h4,hport _ _ h3 h5,rfl⟩
 ·have hi:i < nn:=by rw [← hlen]; exact (List.getElem?_eq_some_iff.1 hB).1
  rw [hat i hi] at hB;cases hB;have hx:(List.replicate pp newPt)[p]? = some x:=hx;rw [List.getElem?_replicate] at hx
  split at hx
  ·cases hx;cases hh
  ·cases hx

def costB (B:BR) (p:Nat) (x:PT) (k:Int):BR:={ B with ports:=B.ports.set p { x with k:=k } }

theorem zfz {ls:List LK} {i:Nat} {B:BR} (h:zx B=true) {p:Nat} {x:PT} (hx:B.ports[p]? = some x) {k:Int} (hk:1≤k∧k≤1000):zcU ls noU i B (costB B p x k):=by
 have hp:ptOk { x with k:=k }=true:=by
  have h1:=zfG h hx;unfold ptOk at *;simp only [Bool.and_eq_true] at h1 ⊢;exact ⟨by simp; omega,h1.2⟩
 refine ⟨rfl,zes h hp,by simp [costB],fun q x' hx' => ?_⟩;have hy':(B.ports.set p { x with k:=k })[q]? = some x':=hx';rw [List.getElem?_set] at hy'
 split at hy'
 ·next e =>
  subst e;have e2:({ x with k:=k }:PT)=x':=by simpa [(List.getElem?_eq_some_iff.1 hx).1] using hy'
  subst e2;exact ⟨x,hx,rfl,.inl⟩
 ·exact ⟨x',hy',rfl,.inl⟩

theorem zgr {bs:List BR} {ls:List LK} {ss:List SY} (h:NetOk bs ls ss) {i p:Nat} {B:BR} {x:PT} (hB:bs[i]? = some B) (hx:B.ports[p]? = some x) {k:Int} (hk:1≤k∧k≤1000):NetOk (bs.set i (costB B p x k)) ls ss:=by
 have e:bs.set i (costB B p x k)=atSet bs i (fun B=>costB B p x k):=by unfold atSet; rw [hB]
 rw [e];refine zct (U:=noU) (fun _ _=>rfl) h (za5 h.1.1 (fun _ _ _=>rfl) (fun D hD => ?_)) h.2.2.2;rw [hB] at hD;cases hD;exact zfz (h.1.1 B (List.mem_of_getElem? hB)) hx hk

theorem NOwn.cost {w:World} {base:Nat} {M:NV} (h:NOwn w base M) {i p:Nat} {y:BV} {x:PT} (hy:M.bs[i]? = some y) (hx:y.B.ports[p]? = some x) {g:Nat} (hg:y.a=some ⟨g,0,none⟩) (k:Int) :
  NOwn (w.setCell ⟨g,p*8+1,none⟩ (.int .i64 k)) base { M with bs:=M.bs.set i { y with B:=costB y.B p x k } }:=by
 have hO:=h.b.item y (List.mem_of_getElem? hy);have hports:w.ownsRow base 53 8 (.slice (some ⟨g,0,none⟩) y.n y.c) y.n (ptF.all y.B.ports):=by rw [← hg]; exact hO.ports
 obtain ⟨pre,post,e1,e2,e3⟩:=zcz (y:={ y with B:=costB y.B p x k }) hy;obtain ⟨pr,po,f1,f2,f3⟩:=zcz (y:={ x with k:=k }) hx;have hgs:w.grownBy (w.setCell ⟨g,p*8+1,none⟩ (.int .i64 k)) (some g):=zj _ _;have hgs2:w.grownBy (w.setCell ⟨g,p*8+1,none⟩ (.int .i64 k)) (Value.slice (some ⟨g,0,none⟩) y.n y.c).ownBlock:=hgs;have hNew:(w.setCell ⟨g,p*8+1,none⟩ (.int .i64 k)).ownsRow base 53 8 (.slice (some ⟨g,0,none⟩) y.n y.c) y.n (ptF.all (y.B.ports.set p { x with k:=k })):=by
  rw [← f3];rw [f1] at hports;rw [f2];exact zF (F:=ptF) hports 1 (.int .i64 k) (by decide) rfl
 have hrow:(w.setCell ⟨g,p*8+1,none⟩ (.int .i64 k)).ownsRow base 44 11 (.slice M.ba M.bn M.bc) M.bn (brF.all M.bs):=zu h.b.row hports (by decide) hgs2;have hall:brF.all (M.bs.set i { y with B:=costB y.B p x k })=brF.all M.bs:=by
  rw [← e3]
  conv=>rhs; rw [e1]
  rw [brF.all_append,brF.all_append,brF.all_cons,brF.all_cons]
  rfl
 refine ⟨?_,zu h.l hports (by decide) hgs2,zu h.s hports (by decide) hgs2⟩
 show BOs _ base M.ba M.bn M.bc (M.bs.set i { y with B:=costB y.B p x k })
 have hb:=h.b;rw [e1] at hb;have hit:({ y with B:=costB y.B p x k }:BV).Own (w.setCell ⟨g,p*8+1,none⟩ (.int .i64 k)) base:=by
  refine ⟨?_,zu hO.f hports (by decide) hgs2,⟨zu hO.v.rows hports (by decide) hgs2,zu hO.v.own hports (by decide) hgs2,hO.v.i64⟩⟩
  show (w.setCell ⟨g,p*8+1,none⟩ (.int .i64 k)).ownsRow base 53 8 (.slice y.a y.n y.c) y.n (ptF.all (y.B.ports.set p { x with k:=k }))
  rw [hg];exact hNew
 have hO3:Only [g] w (w.setCell ⟨g,p*8+1,none⟩ (.int .i64 k)):=Only.set w g _ _;rw [← e3] at hall ⊢;refine hb.turn (bs:=[g]) (fun z hz b hb1 hb2=>zcJ hb.apart z hz b hb1 hb2) hO3 (fun b hb'=>.inl ?_) (by rw [hall]; exact hrow) hit;rw [List.mem_singleton] at hb';rw [hb'];exact zbA.2 (.inl (by rw [hg]; simp [blkL]))

abbrev q323:Oper:=⟨some 22,.load 24 (.tmp 21),24,"l13_net.go:64",#[⟨0,.data⟩],none⟩
abbrev q324:Oper:=⟨some 28,.call ⟨.value (.func 70),#[.tmp 26,.tmp 27],#[3,3]⟩,44,"l13_net.go:64",#[⟨5,.data⟩,⟨6,.data⟩],none⟩
abbrev q325:Oper:=⟨some 29,.buildSlice 24 1 #[(0,.tmp 28)],24,"l13_net.go:64",#[⟨7,.data⟩],none⟩
abbrev q326:Oper:=⟨some 30,.call ⟨.builtin .append,#[.tmp 22,.tmp 29],#[24,24]⟩,24,"l13_net.go:64",#[⟨1,.data⟩,⟨8,.data⟩,⟨7,.chain⟩],none⟩
abbrev q327:Oper:=⟨some 31,.fieldAddr 28 (.tmp 7) 0,0,"l13_net.go:64",#[⟨0,.phase⟩,⟨1,.phase⟩,⟨2,.phase⟩,⟨3,.phase⟩,⟨4,.phase⟩,⟨5,.phase⟩,⟨6,.phase⟩,⟨7,.phase⟩,⟨8,.phase⟩,⟨9,.phase⟩],none⟩
abbrev q328:Oper:=⟨none,.store 24 (.tmp 31) (.tmp 30),0,"l13_net.go:64",#[⟨10,.data⟩,⟨9,.data⟩,⟨9,.chain⟩,⟨0,.phase⟩,⟨1,.phase⟩,⟨2,.phase⟩,⟨3,.phase⟩,⟨4,.phase⟩,⟨5,.phase⟩,⟨6,.phase⟩,⟨7,.phase⟩,⟨8,.phase⟩,⟨9,.phase⟩],none⟩

theorem zcP {ids:List Int} {ports:Int} {k:Nat} {id:Int} (h:ids[k]? = some id):newBs (ids.take (k+1)) ports=newBs (ids.take k) ports++[zm id ports]:=by
 unfold newBs;rw [List.take_add_one,h,List.map_append]
 rfl

theorem zhE {ids:List Int} {ports:Int} {k:Nat} {id:Int} (h:ids[k]? = some id):upBs (ids.take (k+1)) ports=upBs (ids.take k) ports++[raised (zm id ports)]:=by
 unfold upBs;rw [List.take_add_one,h,List.map_append]
 rfl

theorem zdB (ia:Option Addr) (im ic:Nat) (ids:List Int) (ports:Int) (la0:Option Addr) (ln lc0:Nat) (l:List LK) (w:World) (hI:IRow w ia im ic ids) (hL:GRow linkF w la0 ln lc0 l) (hs:ln≤1048576) (hm:im≤1048576) :
  Calls Tryz.prog 38 #[.slice ia im ic,.int .i64 ports,.slice la0 ln lc0] w fun e w'=>zgV ids ports l w e w':=by
 have hIs:=hI.size;generalize hw1:w.alloc (Obj.cells #[.slice none 0 0,.slice none 0 0,.slice none 0 0] 28)=w1;generalize hw2:w1.alloc (Obj.cells #[] 66)=w2;have b01:=zb hw1;have b12:=zb hw2;have z1:w1.heap.size=w.heap.size+1:=by rw [← hw1]; simp
 have k2:=zk hw2;have b02:=zc b01 b12;have kJ:=za (zk hw1) b12;have on:w2.ownsRow (w.heap.size+1) 66 linkF.k (.slice (some ⟨w1.heap.size,0,none⟩) 0 0) 0 (linkF.all []):=by
  have:=zaE linkF w1 w2 66 w1.heap.size k2 (Nat.le_refl _)
  rw [z1] at this ⊢;exact this
 have hz2:w.heap.size+1≤w2.heap.size:=by rw [← z1]; exact b12.size
 clear z1;go_enter Tryz.func38,Tryz.ntmps38;go_wp2_with (at_builtin; refine zS (F:=linkF) _ rfl _ _ 25 66 rfl (w.heap.size+1) Tryz.underlying25 zaw rfl (by decide) _ 0 [] rfl on la0 ln lc0 l rfl (hL.below b02) (by omega) hz2 ?_)
 intro la lc w3 oL _ hg3 hb3
 try simp only [Nat.zero_add,List.nil_append] at oL
 try simp only [Nat.zero_add,List.nil_append]
 have kR3:=ze kJ hg3 (fun k hk=>by have:=(on.lt k hk).1; omega);have b03:Below w.heap.size w w3:=b02.trans (hb3.mono (by omega));clear hw1 hw2 b01 b12 k2 kJ on hz2 b02 hg3 hb3;go_wp2_with fail
 generalize hw4:w3.alloc (Obj.cells #[.slice none 0 0,.slice la ln lc,.slice none 0 0] 28)=w4;have b34:=zb hw4;have kX4:=zk hw4;have st0:NnSt w w4 w3.heap.size la ln lc l none 0 0 []:=⟨kX4,za kR3 b34,zaz _ _,zi oL b34,zc b03 b34,zdg kR3⟩;generalize hX:w3.heap.size=X at *;clear hw4 b34 kX4 kR3 b03 oL
 go_loopw [8] (fun i wr=>∃(k:Nat) (ba:Option Addr) (bc:Nat) (bs:List BV),k≤im∧i=.int .i64 k∧NnSt w wr X la ln lc l ba k bc bs∧bs.map BV.B=newBs (ids.take k) ports) (fun i _=>im - (intOf i).toNat)
 case atStart=>exact ⟨0,none,0,[],Nat.zero_le _,rfl,st0,by simp [newBs]⟩
 case round =>
  obtain ⟨k,ba,bc,bs,hk,rfl,st,hM⟩:=hrel;clear st0;by_cases hlt:k < im
  ·obtain ⟨id,ib,io,hid,rfl,ci⟩:=zg9 hI k hlt;have i1:(0:Int)≤(k:Int):=by omega
   have i2:(k:Int) < (im:Int):=by omega
   have HI:=hide hid;have HM:=hide hM;have vv:Below wr.heap.size wr wr.drew:=zG (Below.refl _ _);have uu:Below w.heap.size w wr.drew:=zc st.below vv;have x0:=(zd (za st.box vv)).1;clear hid hM;(go_wp2_with fail);refine wp_region_held_drew (S:=(fun W=>zcc W ib (io+k) (.int .i64 id))) (by kernel_rfl) ((uu.cell (zp ci)).trans ci) (fun hHeld => ?_);refine kK 0 ⟨some 21,.fieldAddr 28 (.tmp 7) 0,0,"l13_net.go:64",#[],none⟩ ?_;refine kK 2 ⟨some 23,.move (.tmp 0),35,"l13_net.go:64",#[],none⟩ ?_;refine kK 3 ⟨some 24,.move (.tmp 8),3,"l13_net.go:64",#[],none⟩ ?_;refine kK 4 ⟨some 25,.indexAddr 35 (.tmp 23) (.tmp 24),0,"l13_net.go:64",#[⟨2,.data⟩,⟨3,.data⟩],none⟩ ?_;refine kK 5 ⟨some 26,.load 3 (.tmp 25),3,"l13_net.go:64",#[⟨4,.data⟩],none⟩ ?_;refine kK 6 ⟨some 27,.move (.tmp 1),3,"l13_net.go:64",#[],none⟩ ?_;refine tR [1,7] ?_;refine AllReadyH.cons (o:=q323) rfl (fun K hK => ?_) ?_
   ·go_simp;refine kO hK ((uu.cell (zp ci)).trans ci) fun hHeld => ?_
    clear hK K;refine kR 7 q324 (fun K hK => ?_);go_simp;refine (zdC id ports _).mono ?_;rintro e wz ⟨a2,n2,c2,fa2,fn2,fc2,ra2,rn2,rc2,oa2,on2,oc2,rfl,ow2,hbz⟩;have ow2:=BrOwn.lt ow2 (base':=wr.heap.size) vv.size;have vv:=zc vv hbz;have uu:=zc st.below vv;have x0:=(zd (za st.box vv)).1;(go_wp2_with fail);refine kO hK ((uu.cell (zp ci)).trans ci) fun hHeld => ?_
    clear hK K;refine kR 8 q325 (fun K hK => ?_);go_simp
    first
    | refine zw (K:=K _) (fun wx kY hbx => ?_)
    | refine zq (K:=K _) (fun wx kY hbx => ?_)
    have gz:=vv.size;have ow2:=BrOwn.below ow2 hbx;have vv:=zc vv hbx;have uu:=zc st.below vv;have x0:=(zd (za st.box vv)).1;clear hbx;refine kO hK ((uu.cell (zp ci)).trans ci) fun hHeld => ?_
    clear hK K;refine kR 9 q326 (fun K hK => ?_);have gn1:GRow brF wx (some ⟨_,0,none⟩) 1 1 [(⟨a2,n2,c2,fa2,fn2,fc2,ra2,rn2,rc2,oa2,on2,oc2,(zm id ports)⟩:BV)]:=zA (F:=brF) (zaC brF (base:=0) (l:=[(⟨a2,n2,c2,fa2,fn2,fc2,ra2,rn2,rc2,oa2,on2,oc2,(zm id ports)⟩:BV)]) kY rfl (Nat.zero_le _) (by simp));have hoN:=st.b.below vv;refine zh (F:=brF) rfl _ _ 24 44 rfl (w.heap.size+1) Tryz.underlying24 zdV rfl (by decide) _ k bs rfl hoN.row _ 1 1 _ rfl gn1 (by omega) (Nat.le_trans st.size vv.size) ?_;intro aL cL wL how _ hgr hbL;obtain ⟨kX,uu,stN⟩:=st.push (y:=(⟨a2,n2,c2,fa2,fn2,fc2,ra2,rn2,rc2,oa2,on2,oc2,(zm id ports)⟩:BV)) vv ow2 hgr how;have x0:=(zd kX).1;have fz:=zg kX 0;refine kO hK ((uu.cell (zp ci)).trans ci) fun hHeld => ?_
    clear hK K;refine kK 10 q327 ?_;refine kR 11 q328 (fun K hK => ?_);go_simp;have uu:=stN.below;refine kO hK ((uu.cell (zp ci)).trans ci) fun hHeld => ?_
    clear hK K;refine wpAnyH_done (by kernel_rfl) ?_ _;have HST:=hide stN;clear hHeld how hgr hbL hoN kX uu x0 fz kY gn1 ow2 vv;go_wp2
    go_roundw
    case rel=>exact ⟨k+1,aL,cL,_,by omega,by go_num,HST.out,by rw [List.map_append,HM.out,zcP HI.out]; rfl⟩
    case measure=>simp [intOf]; omega
   refine AllReadyH.cons (o:=q324) rfl (fun K hK => ?_) ?_
   ·go_simp;refine (zdC id ports _).mono ?_;rintro e wz ⟨a2,n2,c2,fa2,fn2,fc2,ra2,rn2,rc2,oa2,on2,oc2,rfl,ow2,hbz⟩;have ow2:=BrOwn.lt ow2 (base':=wr.heap.size) vv.size;have vv:=zc vv hbz;have uu:=zc st.below vv;have x0:=(zd (za st.box vv)).1;(go_wp2_with fail);refine kO hK ((uu.cell (zp ci)).trans ci) fun hHeld => ?_
    clear hK K;refine tR [1,8] ?_;refine AllReadyH.cons (o:=q323) rfl (fun K hK => ?_) ?_
    ·go_simp;refine kO hK ((uu.cell (zp ci)).trans ci) fun hHeld => ?_
     clear hK K;refine kR 8 q325 (fun K hK => ?_);go_simp
     first
     | refine zw (K:=K _) (fun wx kY hbx => ?_)
     | refine zq (K:=K _) (fun wx kY hbx => ?_)
     have gz:=vv.size;have ow2:=BrOwn.below ow2 hbx;have vv:=zc vv hbx;have uu:=zc st.below vv;have x0:=(zd (za st.box vv)).1;clear hbx;refine kO hK ((uu.cell (zp ci)).trans ci) fun hHeld => ?_
     clear hK K;refine kR 9 q326 (fun K hK => ?_);have gn1:GRow brF wx (some ⟨_,0,none⟩) 1 1 [(⟨a2,n2,c2,fa2,fn2,fc2,ra2,rn2,rc2,oa2,on2,oc2,(zm id ports)⟩:BV)]:=zA (F:=brF) (zaC brF (base:=0) (l:=[(⟨a2,n2,c2,fa2,fn2,fc2,ra2,rn2,rc2,oa2,on2,oc2,(zm id ports)⟩:BV)]) kY rfl (Nat.zero_le _) (by simp));have hoN:=st.b.below vv;refine zh (F:=brF) rfl _ _ 24 44 rfl (w.heap.size+1) Tryz.underlying24 zdV rfl (by decide) _ k bs rfl hoN.row _ 1 1 _ rfl gn1 (by omega) (Nat.le_trans st.size vv.size) ?_;intro aL cL wL how _ hgr hbL;obtain ⟨kX,uu,stN⟩:=st.push (y:=(⟨a2,n2,c2,fa2,fn2,fc2,ra2,rn2,rc2,oa2,on2,oc2,(zm id ports)⟩:BV)) vv ow2 hgr how;have x0:=(zd kX).1;have fz:=zg kX 0;refine kO hK ((uu.cell (zp ci)).trans ci) fun hHeld => ?_
     clear hK K;refine kK 10 q327 ?_;refine kR 11 q328 (fun K hK => ?_);go_simp;have uu:=stN.below;refine kO hK ((uu.cell (zp ci)).trans ci) fun hHeld => ?_
     clear hK K;refine wpAnyH_done (by kernel_rfl) ?_ _;have HST:=hide stN;clear hHeld how hgr hbL hoN kX uu x0 fz kY gn1 ow2 vv;go_wp2
     go_roundw
     case rel=>exact ⟨k+1,aL,cL,_,by omega,by go_num,HST.out,by rw [List.map_append,HM.out,zcP HI.out]; rfl⟩
     case measure=>simp [intOf]; omega
    refine AllReadyH.cons (o:=q325) rfl (fun K hK => ?_) ?_
    ·go_simp
     first
     | refine zw (K:=K _) (fun wx kY hbx => ?_)
     | refine zq (K:=K _) (fun wx kY hbx => ?_)
     have gz:=vv.size;have ow2:=BrOwn.below ow2 hbx;have vv:=zc vv hbx;have uu:=zc st.below vv;have x0:=(zd (za st.box vv)).1;clear hbx;refine kO hK ((uu.cell (zp ci)).trans ci) fun hHeld => ?_
     clear hK K;refine kR 1 q323 (fun K hK => ?_);go_simp;refine kO hK ((uu.cell (zp ci)).trans ci) fun hHeld => ?_
     clear hK K;refine kR 9 q326 (fun K hK => ?_);have gn1:GRow brF wx (some ⟨_,0,none⟩) 1 1 [(⟨a2,n2,c2,fa2,fn2,fc2,ra2,rn2,rc2,oa2,on2,oc2,(zm id ports)⟩:BV)]:=zA (F:=brF) (zaC brF (base:=0) (l:=[(⟨a2,n2,c2,fa2,fn2,fc2,ra2,rn2,rc2,oa2,on2,oc2,(zm id ports)⟩:BV)]) kY rfl (Nat.zero_le _) (by simp));have hoN:=st.b.below vv;refine zh (F:=brF) rfl _ _ 24 44 rfl (w.heap.size+1) Tryz.underlying24 zdV rfl (by decide) _ k bs rfl hoN.row _ 1 1 _ rfl gn1 (by omega) (Nat.le_trans st.size vv.size) ?_;intro aL cL wL how _ hgr hbL;obtain ⟨kX,uu,stN⟩:=st.push (y:=(⟨a2,n2,c2,fa2,fn2,fc2,ra2,rn2,rc2,oa2,on2,oc2,(zm id ports)⟩:BV)) vv ow2 hgr how;have x0:=(zd kX).1;have fz:=zg kX 0;refine kO hK ((uu.cell (zp ci)).trans ci) fun hHeld => ?_
     clear hK K;refine kK 10 q327 ?_;refine kR 11 q328 (fun K hK => ?_);go_simp;have uu:=stN.below;refine kO hK ((uu.cell (zp ci)).trans ci) fun hHeld => ?_
     clear hK K;refine wpAnyH_done (by kernel_rfl) ?_ _;have HST:=hide stN;clear hHeld how hgr hbL hoN kX uu x0 fz kY gn1 ow2 vv;go_wp2
     go_roundw
     case rel=>exact ⟨k+1,aL,cL,_,by omega,by go_num,HST.out,by rw [List.map_append,HM.out,zcP HI.out]; rfl⟩
     case measure=>simp [intOf]; omega
    exact AllReadyH.nil
   exact AllReadyH.nil
  ·have hkn:k=im:=by omega
   rw [List.take_of_length_le (by omega)] at hM;subst hkn;obtain ⟨x0,x1,x2⟩:=zd st.box;have hN:zac wr ⟨ba,k,bc,bs,la,ln,lc,l,none,0,0,[]⟩:=⟨st.b.grow,fun x hx=>(st.b.item x hx).row,zA (F:=linkF) st.l,zcp _ _⟩;(go_wp2_with fail);refine (zcD ⟨ba,k,bc,bs,la,ln,lc,l,none,0,0,[]⟩ _ hN (show ln≤16777216 by omega)).mono ?_;rintro e w6 ⟨q,rfl,hq,hb6⟩;have hq2:q=true↔NetOk (newBs ids ports) l []:=by rw [← hM]; exact hq
   clear hq;have st:=st.later hb6;clear x0 x1 x2 hN hb6;cases q
   ·have hno:¬NetOk (newBs ids ports) l []:=fun h=>by have:=hq2.2 h; cases this
    have HNO:=hide hno;clear hq2 hno;obtain ⟨r0,r1,r2⟩:=zd st.res;have f0:=zg st.res 0;have f1:=zg st.res 1;have f2:=zg st.res 2;have HB:=hide (zy (zy (zy st.below (Nat.le_refl _) 0 (.slice none 0 0)) (Nat.le_refl _) 1 (.slice none 0 0)) (Nat.le_refl _) 2 (.slice none 0 0));go_wp2
    all_goals first | (exfalso; rename_i hf; first | (rw [f0] at hf; cases hf) | (rw [f1] at hf; cases hf) | (rw [f2] at hf; cases hf)) | skip
    exact bodyPost_ret (v:=.agg #[.slice none 0 0,.slice none 0 0,.slice none 0 0]) (by simp [results,Tryz.results38,go_sem, *]) rfl (zh5 HNO.out HB.out)
   ·have hyes:=hq2.1 rfl;clear hq2;have HYES:=hide hyes;have hlen:bs.length=k:=st.b.grow.size;have hbz:∀(i:Nat) (x:BV),bs[i]? = some x→∃id,ids[i]? = some id∧x.B=zm id ports:=fun i x hx=>by
     have:(newBs ids ports)[i]? = some x.B:=by rw [← hM,List.getElem?_map,hx]; rfl
     exact zb5 this
    have hkpos:0 < k:=by
     have:=hyes.1.2.2.1
     rw [← hM] at this
     simp at this
     omega
    obtain ⟨m,hpm⟩:∃m:Nat,ports=(m:Int):=by
     obtain ⟨x,hx⟩:∃x,bs[0]? = some x:=⟨_,List.getElem?_eq_getElem (by omega)⟩;obtain ⟨id,hid,hB⟩:=hbz 0 x hx;exact ⟨_,(zal id ports).2.2.2.2.2 (hyes.1.1 _ (List.mem_of_getElem? (zbB hid)))⟩
    subst hpm;have hpl:∀id,ids.contains id=true→(zm id (m:Int)).ports.length=m:=fun id hid=>by
     have hmem:id∈ids:=by simpa using hid
     obtain ⟨i,hi⟩:=List.getElem?_of_mem hmem
     have:=(zal id (m:Int)).2.2.2.2.2 (hyes.1.1 _ (List.mem_of_getElem? (zbB hi)))
     omega
    have hm6:m≤6:=by
     obtain ⟨x,hx⟩:∃x,bs[0]? = some x:=⟨_,List.getElem?_eq_getElem (by omega)⟩;obtain ⟨id,hid,hB⟩:=hbz 0 x hx;have h1:=hpl id (by simpa using List.mem_of_getElem? hid);have h2:=(zbO id (m:Int)).2.1;omega
    obtain ⟨g,off,hba,hoff⟩:∃g off,ba=some ⟨g,off,none⟩∧off=0:=by
     rcases st.b.row.2 with ⟨e,h0⟩ | ⟨g,cap',cur,e,_⟩
     ·omega
     ·cases e; exact ⟨g,0,rfl,rfl⟩
    subst hoff hba;have HPL:=hide hpl;have HM:=hide hM;have HLEN:=hide hlen;have HIS:=hide hIs;have HKP:=hide hkpos;clear hM hlen hIs hkpos hlt hk;have HBZ:=hide hbz;obtain ⟨x0,x1,x2⟩:=zd st.box;clear hyes hbz hpl;(go_wp2_with fail);clear x0 x1 x2
    go_loopw [9] (fun i wr=>∃(j:Nat) (cs:List BV),j≤k∧i=.int .i64 j∧NnSt w wr X la ln lc l (some ⟨g,0,none⟩) k bc cs∧cs.map BV.B=upBs (ids.take j) (m:Int)++(bs.drop j).map BV.B) (fun i _=>k - (intOf i).toNat)
    case atStart=>exact ⟨0,bs,Nat.zero_le _,rfl,st,by simp [upBs]⟩
    case round =>
     obtain ⟨j,cs,hj,rfl,st,hC⟩:=hrel;have hcl:cs.length=k:=st.b.grow.size;have hlen:=HLEN.out;have hIs:=HIS.out;obtain ⟨x0,x1,x2⟩:=zd st.box;by_cases hlt:j < k
     ·obtain ⟨y,hy⟩:∃y,bs[j]? = some y:=⟨_,List.getElem?_eq_getElem (by omega)⟩;obtain ⟨id,hid,hB⟩:=HBZ.out j y hy;have hul:(upBs (ids.take j) (m:Int)).length=j:=by simp [upBs]; omega
      have hdr:bs.drop j=y::bs.drop (j+1):=by
       obtain ⟨h,rfl⟩:=List.getElem?_eq_some_iff.1 hy;exact List.drop_eq_getElem_cons h
      rw [hdr,List.map_cons,hB] at hC;obtain ⟨x,hx⟩:∃x,cs[j]? = some x:=⟨_,List.getElem?_eq_getElem (by omega)⟩;have hsp:cs=cs.take j++x::cs.drop (j+1):=by
       obtain ⟨h,rfl⟩:=List.getElem?_eq_some_iff.1 hx;rw [← List.drop_eq_getElem_cons h,List.take_append_drop]
      have hpre:(cs.take j).map BV.B=upBs (ids.take j) (m:Int):=by
       have:=congrArg (List.take j) hC
       rw [← List.map_take,List.take_left' hul] at this;exact this
      have hxB:x.B=zm id (m:Int):=by
       have h1:(cs.map BV.B)[j]? = some x.B:=by rw [List.getElem?_map,hx]; rfl
       rw [hC,List.getElem?_append_right (by omega),hul,Nat.sub_self] at h1;exact (Option.some.inj h1).symm
      have hpost:(cs.drop (j+1)).map BV.B=(bs.drop (j+1)).map BV.B:=by
       have:=congrArg (List.drop (j+1)) hC
       rw [← List.map_drop] at this;have hd0:List.drop (j+1) (upBs (ids.take j) (m:Int))=[]:=List.drop_eq_nil_of_le (by omega);rw [this,List.drop_append,hd0,List.nil_append,hul,show j+1 - j=1 by omega]
       rfl
      have hpm:=HPL.out id (by simpa using List.mem_of_getElem? hid);have HPL2:Hid ((cs.take j).length=j):=hide (by rw [List.length_take]; omega);have HPRE:=hide hpre;have HPOST:=hide hpost;have HID:=hide hid;have HPM:=hide hpm;rw [hsp] at st;generalize hpr:cs.take j=pre at *;generalize hpo:cs.drop (j+1)=post at *;clear hy hid hB hdr hC hx hsp hpre hpost hpm hcl hpr hpo hul hlen hIs;(go_wp2_with fail);clear x0 x1 x2
      go_loopw [10] (fun i wr=>∃(p:Nat) (x:BV),p≤m∧i=.int .i64 p∧x.B=zav (zm id (m:Int)) p∧NnSt w wr X la ln lc l (some ⟨g,0,none⟩) k bc (pre++x::post)) (fun i _=>m - (intOf i).toNat)
      case atStart=>exact ⟨0,x,Nat.zero_le _,rfl,hxB,st⟩
      case round =>
       clear st hxB x;obtain ⟨p,x,hp,rfl,hxB,st⟩:=hrel;by_cases hpm:p < m
       ·have HAT:Hid ((pre++x::post)[j]? = some x):=hide (by rw [List.getElem?_append_right (by have:=HPL2.out; omega),HPL2.out,Nat.sub_self]; rfl);have hx:=st.b.item x (by simp);have HSM:Hid (x.n≤1048576∧x.fn≤1048576∧x.rn≤1048576∧x.on≤1048576):=hide (by
         have e1:=hx.row.ports.size;have e2:=hx.row.f.size;have e3:=hx.row.v.rows.size;have e4:=hx.row.v.own.size;have l1:=zcW (zm id (m:Int)) p;have l2:=zbO id (m:Int);rw [hxB] at e1 e2 e3 e4;obtain ⟨l3,l4,l5⟩:=l1;rw [l5] at e3 e4;omega)
        have HXB:Hid (linkB x.B (p:Int) true=zav (zm id (m:Int)) (p+1)):=hide (by rw [hxB]; rfl);have i1:(0:Int)≤(j:Int):=by omega
        have i2:(j:Int) < (k:Int):=by omega
        have i3:(p:Int) < (m:Int):=by omega
        have vv:Below wr.heap.size wr wr.drew:=zG (Below.refl _ _);have kX:=za st.box vv;obtain ⟨⟨ca0,ca1,ca2,ca3,ca4,ca5,ca6,ca7,ca8,ca9,ca10⟩,-⟩:=zad (st.b.below vv).row HAT.out;clear hxB;(go_wp2_with fail);refine wp_region_held_drew (S:=(fun W=>zcc W X 0 (.slice (some ⟨g,0,none⟩) k bc)∧zcc W X 1 (.slice la ln lc)∧zcc W X 2 (.slice none 0 0))) (by kernel_rfl) (zd kX) (fun hHeld => ?_);refine kK 0 ⟨some 48,.fieldAddr 28 (.tmp 7) 0,0,"l13_net.go:71",#[],none⟩ ?_;refine kK 1 ⟨some 49,.load 24 (.tmp 48),24,"l13_net.go:71",#[⟨0,.data⟩],none⟩ ?_;refine kK 2 ⟨some 50,.move (.tmp 9),3,"l13_net.go:71",#[],none⟩ ?_;refine kK 3 ⟨some 51,.fieldAddr 28 (.tmp 7) 0,0,"l13_net.go:71",#[],none⟩ ?_;refine kK 4 ⟨some 52,.load 24 (.tmp 51),24,"l13_net.go:71",#[⟨3,.data⟩],none⟩ ?_;refine kK 5 ⟨some 53,.move (.tmp 9),3,"l13_net.go:71",#[],none⟩ ?_;refine kK 6 ⟨some 54,.indexAddr 24 (.tmp 52) (.tmp 53),0,"l13_net.go:71",#[⟨4,.data⟩,⟨5,.data⟩],none⟩ ?_;refine kK 8 ⟨some 56,.move (.tmp 10),3,"l13_net.go:71",#[],none⟩ ?_;refine kR 7 ⟨some 55,.load 44 (.tmp 54),44,"l13_net.go:71",#[⟨6,.data⟩],none⟩ (fun K hK => ?_);go_simp;refine kO hK (zd kX) fun hHeld => ?_
        clear hK K;refine kR 9 ⟨some 57,.call ⟨.value (.func 72),#[.tmp 55,.tmp 56,.const (.bool true)],#[44,3,4]⟩,44,"l13_net.go:71",#[⟨7,.data⟩,⟨8,.data⟩],none⟩ (fun K hK => ?_);go_simp;refine (zbF x.a x.n x.c x.fa x.fn x.fc x.ra x.rn x.rc x.oa x.on x.oc x.B (p:Int) true _ ((hx.row).below vv) HSM.out.1 HSM.out.2.1 HSM.out.2.2.1 HSM.out.2.2.2).mono ?_;rintro e wz ⟨a2,n2,c2,fa2,fn2,fc2,ra2,rn2,rc2,oa2,on2,oc2,rfl,ow2,hbz⟩;have ow2:=BrOwn.lt ow2 (base':=wr.heap.size) vv.size;have vv:=zc vv hbz;have kX:=za st.box vv;have hrow:=(st.b.below vv).row;obtain ⟨⟨t0,t1,t2,t3,t4,t5,t6,t7,t8,t9,t10⟩,f0,f1,f2,f3,f4,f5,f6,f7,f8,f9,f10⟩:=zad hrow HAT.out;(go_wp2_with fail);refine kO hK (zd kX) fun hHeld => ?_
        clear hK K;refine kK 10 ⟨some 58,.indexAddr 24 (.tmp 49) (.tmp 50),0,"l13_net.go:71",#[⟨1,.data⟩,⟨2,.data⟩,⟨0,.phase⟩,⟨1,.phase⟩,⟨2,.phase⟩,⟨3,.phase⟩,⟨4,.phase⟩,⟨5,.phase⟩,⟨6,.phase⟩,⟨7,.phase⟩,⟨8,.phase⟩,⟨9,.phase⟩],none⟩ ?_;refine kR 11 ⟨none,.store 44 (.tmp 58) (.tmp 57),0,"l13_net.go:71",#[⟨10,.data⟩,⟨9,.data⟩,⟨9,.chain⟩,⟨0,.phase⟩,⟨1,.phase⟩,⟨2,.phase⟩,⟨3,.phase⟩,⟨4,.phase⟩,⟨5,.phase⟩,⟨6,.phase⟩,⟨7,.phase⟩,⟨8,.phase⟩,⟨9,.phase⟩],none⟩ (fun K hK => ?_);go_simp;refine zaT (⟨a2,n2,c2,fa2,fn2,fc2,ra2,rn2,rc2,oa2,on2,oc2,(linkB x.B (p:Int) true)⟩:BV) HPL2.out (K:=K _) hrow (fun wq hq hgq => ?_);have stN:=st.put (y:=(⟨a2,n2,c2,fa2,fn2,fc2,ra2,rn2,rc2,oa2,on2,oc2,(linkB x.B (p:Int) true)⟩:BV)) vv ow2 hgq hq;have kX:=stN.box;refine kO hK (zd kX) fun hHeld => ?_
        clear hK K;refine wpAnyH_done (by kernel_rfl) ?_ _;have HST:=hide stN;clear hHeld kX hq hgq hrow ow2 vv;go_wp2
        go_roundw
        case rel=>exact ⟨p+1,_,by omega,by go_num,HXB.out,HST.out⟩
        case measure=>simp [intOf]; omega
       ·have hpx:p=m:=by omega
        have HC:Hid ((pre++x::post).map BV.B=upBs (ids.take (j+1)) (m:Int)++(bs.drop (j+1)).map BV.B):=hide (by
         rw [List.map_append,List.map_cons,HPRE.out,HPOST.out,hxB,zhE HID.out,List.append_assoc]
         have:zav (zm id (m:Int)) p=raised (zm id (m:Int)):=by unfold raised; rw [HPM.out,hpx]
         rw [this]
         rfl)
        have HST:=hide st;clear st hxB;go_wp2
        go_roundw
        case rel=>exact ⟨j+1,_,by omega,by go_num,HST.out,HC.out⟩
        case measure=>simp [intOf]; omega
     ·have hjk:j=k:=by omega
      have hup:cs.map BV.B=upBs ids (m:Int):=by
       rw [hC,List.drop_eq_nil_of_le (by omega),List.take_of_length_le (by omega)]
       simp
      have HUP:=hide hup;obtain ⟨r0,r1,r2⟩:=zd st.res;have f0:=zg st.res 0;have f1:=zg st.res 1;have f2:=zg st.res 2;have ne1:¬w.heap.size=X:=by have:=st.lt; omega
      have ne2:¬X=w.heap.size:=by have:=st.lt; omega
      have HO:=hide st.out.1;have HB:=hide st.out.2;clear hup hC st hlen hIs hcl hjk;go_wp2
      all_goals first | (exfalso; rename_i hf; first | (rw [f0] at hf; cases hf) | (rw [f1] at hf; cases hf) | (rw [f2] at hf; cases hf)) | skip
      exact bodyPost_ret (v:=.agg #[.slice (some ⟨g,0,none⟩) k bc,.slice la ln lc,.slice none 0 0]) (by simp [results,Tryz.results38,go_sem, *]) rfl (show zgV ids (m:Int) l w _ _ from ⟨⟨some ⟨g,0,none⟩,k,bc,cs,la,ln,lc,l,none,0,0,[]⟩,rfl,HO.out,⟨fun _=>⟨HUP.out,rfl⟩,fun h=>absurd HYES.out h⟩,HB.out⟩)

end Go.Proofs.YtkaefmfopejbaaaGreat
