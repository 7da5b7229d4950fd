/-
  Packed: NetMark NetHeld NetMarkG NetMarkN NetMarkM.
-/
import Derived.Test.YtpaneiaflfegoaaGreatPTKW
import Derived.Test.YtpaneiaflfegoaaGreatPTK01
import Derived.Test.YtpaneiaflfegoaaGreatPTK07
import Derived.Test.YtpaneiaflfegoaaGreatPTK22
import Derived.Deep.RegionHeld3
namespace Go.Proofs.YtpaneiaflfegoaaGreat
set_option maxRecDepth 100000
set_option maxHeartbeats 16000000
open Go.RowKit

def endW (K:Int) (x:BV):Int:=K+1+1+8*x.n+5*x.fn+3*x.rn+x.on
def markV (K:Int) (x:BV):BV:={ x with B:=⟨K,mtx (K+1),zaJ (K+1+1) x.n,zaL (K+1+1+8*x.n) x.fn,⟨zaR (K+1+1+8*x.n+5*x.fn) x.rn,zaM (K+1+1+8*x.n+5*x.fn+3*x.rn) x.on⟩,endW K x,endW K x+1,endW K x+1+1,endW K x+1+1+1,endW K x+1+1+1+1⟩ }
def endV (K:Int) (x:BV):Int:=endW K x+1+1+1+1+1
def zaW:Int→List BV→List BV
 | _,[]=>[]
 | k,x::r=>markV k x::zaW (endV k x) r
def endVs:Int→List BV→Int
 | k,[]=>k
 | k,x::r=>endVs (endV k x) r

theorem zhG (a:List BV) (x:BV):∀k,zaW k (a++[x])=zaW k a++[markV (endVs k a) x]:=by
 induction a with
 | nil=>intro k; rfl
 | cons y r ih=>intro k; simp only [List.cons_append,zaW,endVs,ih]
theorem zdx (a:List BV) (x:BV):∀k,endVs k (a++[x])=endV (endVs k a) x:=by
 induction a with
 | nil=>intro k; rfl
 | cons y r ih=>intro k; simp only [List.cons_append,endVs,ih]
theorem zdh (a:List BV):∀k,(zaW k a).length=a.length:=by
 induction a with
 | nil=>intro k; rfl
 | cons y r ih=>intro k; simp only [zaW,List.length_cons,ih]
theorem zet (a:List BV):∀k,(zaW k a).flatMap BV.blks=a.flatMap BV.blks:=by
 induction a with
 | nil=>intro k; rfl
 | cons y r ih=>intro k; simp only [zaW,List.flatMap_cons,ih]; rfl

def BV.Tiny (x:BV):Prop:=x.n≤64∧x.fn≤64∧x.rn≤64∧x.on≤64
theorem zlA {K:Int} {x:BV} (h:x.Tiny):K < endV K x∧endV K x≤K+2048:=by
 obtain ⟨h1,h2,h3,h4⟩:=h;unfold endV endW;omega
theorem zkR (a:List BV):(∀x∈a,x.Tiny)→∀K,K≤endVs K a∧endVs K a≤K+2048*a.length:=by
 induction a with
 | nil=>intro _ K; simp [endVs]
 | cons y r ih =>
  intro h K;have h1:=zlA (K:=K) (h y (by simp));have h2:=ih (fun x hx=>h x (by simp [hx])) (endV K y);simp only [endVs,List.length_cons];omega

theorem BOs.cell {w:World} {base g n cap jj a:Nat} {u:Value} {pre post:List BV} {x x':BV} (h:BOs w base (some ⟨g,0,none⟩) n cap (pre++x::post)) (hjj:jj < 11) (ha:a=pre.length*11+jj) (hc:(brF.cs x).set jj u=brF.cs x') (hb:x'.blks=x.blks) (hx:x.Own w base→x'.Own w base):BOs (w.setCell ⟨g,a,none⟩ u) base (some ⟨g,0,none⟩) n cap (pre++x'::post):=by
 subst ha;have hm:x∈pre++x::post:=by simp
 have O:=Only.set w g (pre.length*11+jj) u;refine h.turn (bs:=[g]) (x':=x') (by rw [hb]; exact zdv h.apart) O (fun b hb=>.inr (by simpa [blkL] using hb)) (zt (F:=brF) h.row jj u hjj hc) ?_;exact (hx (h.item x hm)).only O (fun b hb' hb2=>BV.Own.row_apart h.row (h.item x hm) b (hb▸hb') (by simpa [blkL] using hb2))

theorem BOs.inner {bs:List Nat} {w w':World} {base:Nat} {ao:Option Addr} {n cap:Nat} {pre post:List BV} {x x':BV} (h:BOs w base ao n cap (pre++x::post)) (ho:Only bs w w') (hs:∀b∈bs,b∈x.blks) (hcs:brF.cs x'=brF.cs x) (hb:x'.blks=x.blks) (hx:x'.Own w' base):BOs w' base ao n cap (pre++x'::post):=by
 have hm:x∈pre++x::post:=by simp
 refine h.turn (x':=x') (by rw [hb]; exact zdv h.apart) ho (fun b hb=>.inl (hs b hb)) ?_ hx;have e:brF.all (pre++x'::post)=brF.all (pre++x::post):=by rw [brF.all_append,brF.all_append,brF.all_cons,brF.all_cons,hcs]
 rw [e];exact ho.own h.row (fun k hk hk'=>BV.Own.row_apart h.row (h.item x hm) k (hs k hk') (zR.1 hk))

theorem BOs.mid {w:World} {base:Nat} {ao:Option Addr} {n cap:Nat} {pre post:List BV} {x:BV} (h:BOs w base ao n cap (pre++x::post)):x.Own w base:=h.item x (by simp)

theorem zbg {bs cs:List Nat} {a b c:World} (h:Only cs a b) (k:Only bs b c) (hs:∀x∈bs,x∈cs):Only cs a c:=h.trans (k.wider hs)

theorem zj4 (a:List BV) (x:BV) (c:List BV):∀k,(zaW k (a++x::c))[a.length]?=some (markV (endVs k a) x):=by
 induction a with
 | nil=>intro k; rfl
 | cons y r ih=>intro k; simp only [List.cons_append,zaW,endVs,List.length_cons,List.getElem?_cons_succ,ih]

theorem zjv (a b:List BV):∀K,endVs K (a++b)=endVs (endVs K a) b:=by
 induction a with
 | nil=>intro K; rfl
 | cons y r ih=>intro K; simp only [List.cons_append,endVs,ih]
theorem zcz (a:List BV):∀K,K≤endVs K a:=by
 induction a with
 | nil=>intro K; exact Int.le_refl _
 | cons y r ih =>
  intro K
  have:=ih (endV K y)
  simp only [endVs];unfold endV endW at this ⊢;omega
theorem zih {l:List BV} {j:Nat} {x:BV} (h:l[j]?=some x) (K:Int):K≤endVs K (l.take j)∧endV (endVs K (l.take j)) x≤endVs K l:=by
 refine ⟨zcz _ K, ?_⟩;have e:l=(l.take j++[x])++l.drop (j+1):=by
  obtain ⟨hj,rfl⟩:=List.getElem?_eq_some_iff.1 h;rw [List.append_assoc,List.singleton_append,← List.drop_eq_getElem_cons hj,List.take_append_drop]
 have e2:endVs K l=endVs (endVs K (l.take j++[x])) (l.drop (j+1)):=by rw [← zjv,← e]
 rw [e2,zdx];exact zcz _ _
theorem zgc (a:List BV):∀K,K+a.length≤endVs K a:=by
 induction a with
 | nil=>intro K; simp [endVs]
 | cons y r ih =>
  intro K
  have:=ih (endV K y)
  simp only [endVs,List.length_cons];unfold endV endW at this ⊢;omega
theorem zjw (l:List BV):∀K,endVs K l≤K+8*((l.map fun x=>1+x.n+x.fn+x.rn+x.on).sum:Nat):=by
 induction l with
 | nil=>intro K; simp [endVs]
 | cons y r ih =>
  intro K
  have:=ih (endV K y)
  simp only [endVs,List.map_cons,List.sum_cons];unfold endV endW at this ⊢;omega

theorem zi7 (base g n cap:Nat) (l:List BV) (K0:Int) (w:World) (h:BOs w base (some ⟨g,0,none⟩) n cap l) (hk0:0 < K0) (hT:endVs K0 l≤16777216) :
  Calls Tryz.prog 39 #[.slice (some ⟨g,0,none⟩) n cap,.int .i64 K0] w fun e w'=>e=.returned (.int .i64 (endVs K0 l))∧BOs w' base (some ⟨g,0,none⟩) n cap (zaW K0 l)∧Only (allB (some ⟨g,0,none⟩) l) w w':=by
 have hl:l.length=n:=h.grow.size;have hn:n≤16777216:=by have:=zgc l K0; omega
 go_enter Tryz.func39,Tryz.ntmps39;go_wp2
 go_loopw [1,5] (fun m i wr=>∃j:Nat,j≤n∧i=.int .i64 j∧m=.int .i64 (endVs K0 (l.take j))∧BOs wr base (some ⟨g,0,none⟩) n cap (zaW K0 (l.take j)++l.drop j)∧Only (allB (some ⟨g,0,none⟩) l) w wr) (fun _ i _=>n - (intOf i).toNat)
 case atStart=>exact ⟨0,Nat.zero_le _,rfl,rfl,by simpa [zaW] using h,Only.refl _ _⟩
 case round =>
  obtain ⟨j,hj,rfl,rfl,st,O⟩:=hrel;by_cases hlt:j < n
  ·obtain ⟨x,hx⟩:∃x,l[j]?=some x:=⟨l[j]'(by omega),List.getElem?_eq_getElem (by omega)⟩;have hdr:l.drop j=x::l.drop (j+1):=by
    obtain ⟨h,rfl⟩:=List.getElem?_eq_some_iff.1 hx;exact List.drop_eq_getElem_cons h
   have htk:l.take (j+1)=l.take j++[x]:=by rw [List.take_add_one,hx]; rfl
   have hmem:=List.mem_of_getElem? hx;have hKb:=zih hx K0;unfold endV endW at hKb;have HM:Hid (zaW K0 (l.take (j+1))=zaW K0 (l.take j)++[markV (endVs K0 (l.take j)) x]):=hide (by rw [htk,zhG]);have HE:Hid (endVs K0 (l.take (j+1))=endV (endVs K0 (l.take j)) x):=hide (by rw [htk,zdx]);have HJ:Hid ((zaW K0 (l.take j)).length=j):=hide (by rw [zdh,List.length_take]; omega);have HIN:Hid (∀b∈x.blks,b∈allB (some ⟨g,0,none⟩) l):=hide (fun b hb=>List.mem_append_right _ (List.mem_flatMap.2 ⟨x,hmem,hb⟩));have HG:Hid (∀b∈([g]:List Nat),b∈allB (some ⟨g,0,none⟩) l):=hide (fun b hb=>List.mem_append_left _ (by simpa [blkL] using hb));rw [hdr] at st;generalize hpr:zaW K0 (l.take j)=pre at *;generalize hpo:l.drop (j+1)=post at *;generalize hK:endVs K0 (l.take j)=K at *;have HAT:Hid (∀z:BV,(pre++z::post)[j]?=some z):=hide (fun z=>by rw [List.getElem?_append_right (by have:=HJ.out; omega),HJ.out,Nat.sub_self]; rfl);have HPO:=hide hpo;have i1:(0:Int)≤(j:Int):=by omega
   have i2:(j:Int) < (n:Int):=by omega
   have k1:0 < K∧K≤16777216:=by omega
   have k2:K+1+1+8*(x.n:Int)+5*(x.fn:Int)+3*(x.rn:Int)+(x.on:Int)≤16777216:=by omega
   clear hx hdr htk hKb hpr hpo hK hmem;obtain ⟨⟨t0,t1,t2,t3,t4,t5,t6,t7,t8,t9,t10⟩,f0,f1,f2,f3,f4,f5,f6,f7,f8,f9,f10⟩:=zN st.row (HAT.out x);generalize hw1:wr.setCell ⟨g,j*11,none⟩ (.int .i64 K)=w1;have st1:BOs w1 base (some ⟨g,0,none⟩) n cap (pre++({ x with B:={ x.B with id:=K } }:BV)::post):=by rw [← hw1]; exact st.cell (jj:=0) (by decide) (by have:=HJ.out; omega) rfl rfl (fun h=>⟨h.ports,h.f,h.v⟩)
   have O1:Only (allB (some ⟨g,0,none⟩) l) w w1:=by rw [← hw1]; exact zbg O (Only.set _ _ _ _) HG.out
   (go_wp2_with fail);refine (zdI (K+1) _ (by omega) (by omega)).mono ?_;rintro e w2 ⟨rfl,hms,hb2⟩;have st2:=st1.below hb2;have O2:=zbg O1 (Only.of_below (bs:=[]) hb2) (by intro b hb; cases hb);clear hw1 st st1 O O1 hb2 hms t0 t1 t2 t3 t4 t5 t6 t7 t8 t9 t10 f0 f1 f2 f3 f4 f5 f6 f7 f8 f9 f10;obtain ⟨⟨t0,t1,t2,t3,t4,t5,t6,t7,t8,t9,t10⟩,f0,f1,f2,f3,f4,f5,f6,f7,f8,f9,f10⟩:=zN st2.row (HAT.out ({ x with B:={ x.B with id:=K } }:BV));generalize hw3:w2.setCell ⟨g,j*11+1,none⟩ (.string (mtx (K+1)))=w3;have st3:BOs w3 base (some ⟨g,0,none⟩) n cap (pre++({ x with B:={ x.B with id:=K,name:=mtx (K+1) } }:BV)::post):=by rw [← hw3]; exact st2.cell (jj:=1) (by decide) (by have:=HJ.out; omega) rfl rfl (fun h=>⟨h.ports,h.f,h.v⟩)
   have O3:Only (allB (some ⟨g,0,none⟩) l) w w3:=by rw [← hw3]; exact zbg O2 (Only.set _ _ _ _) HG.out
   have ow:=st3.mid;obtain ⟨⟨t0,t1,t2,t3,t4,t5,t6,t7,t8,t9,t10⟩,f0,f1,f2,f3,f4,f5,f6,f7,f8,f9,f10⟩:=zN st3.row (HAT.out ({ x with B:={ x.B with id:=K,name:=mtx (K+1) } }:BV));(go_wp2_with fail);refine (zfP base x.a x.n x.c x.B.ports (K+1+1) _ ow.ports (by omega) (by omega) (by omega)).mono ?_;rintro e w4 ⟨rfl,o4,hg4⟩;have st4:BOs w4 base (some ⟨g,0,none⟩) n cap (pre++({ x with B:={ x.B with id:=K,name:=mtx (K+1),ports:=zaJ (K+1+1) x.n } }:BV)::post):=st3.inner (Only.of_grown hg4) (fun b hb=>zaP.2 (.inl hb)) rfl rfl ⟨o4,zu ow.f ow.ports (by decide) hg4,⟨zu ow.v.rows ow.ports (by decide) hg4,zu ow.v.own ow.ports (by decide) hg4,ow.v.i64⟩⟩;have O4:=zbg O3 (Only.of_grown hg4) (fun b hb=>HIN.out b (zaP.2 (.inl hb)));clear hw3 st2 st3 O2 O3 o4 hg4 ow t0 t1 t2 t3 t4 t5 t6 t7 t8 t9 t10 f0 f1 f2 f3 f4 f5 f6 f7 f8 f9 f10;have ow:=st4.mid;obtain ⟨⟨t0,t1,t2,t3,t4,t5,t6,t7,t8,t9,t10⟩,f0,f1,f2,f3,f4,f5,f6,f7,f8,f9,f10⟩:=zN st4.row (HAT.out ({ x with B:={ x.B with id:=K,name:=mtx (K+1),ports:=zaJ (K+1+1) x.n } }:BV));(go_wp2_with fail);refine (zep base x.fa x.fn x.fc x.B.f (K+1+1+8*x.n) _ ow.f (by omega) (by omega) (by omega)).mono ?_;rintro e w5 ⟨rfl,o5,hg5⟩;have st5:BOs w5 base (some ⟨g,0,none⟩) n cap (pre++({ x with B:={ x.B with id:=K,name:=mtx (K+1),ports:=zaJ (K+1+1) x.n,f:=zaL (K+1+1+8*x.n) x.fn } }:BV)::post):=st4.inner (Only.of_grown hg5) (fun b hb=>zaP.2 (.inr (.inl hb))) rfl rfl ⟨zu ow.ports ow.f (by decide) hg5,o5,⟨zu ow.v.rows ow.f (by decide) hg5,zu ow.v.own ow.f (by decide) hg5,ow.v.i64⟩⟩;have O5:=zbg O4 (Only.of_grown hg5) (fun b hb=>HIN.out b (zaP.2 (.inr (.inl hb))));clear st4 O4 o5 hg5 ow t0 t1 t2 t3 t4 t5 t6 t7 t8 t9 t10 f0 f1 f2 f3 f4 f5 f6 f7 f8 f9 f10;have ow:=st5.mid;obtain ⟨⟨t0,t1,t2,t3,t4,t5,t6,t7,t8,t9,t10⟩,f0,f1,f2,f3,f4,f5,f6,f7,f8,f9,f10⟩:=zN st5.row (HAT.out ({ x with B:={ x.B with id:=K,name:=mtx (K+1),ports:=zaJ (K+1+1) x.n,f:=zaL (K+1+1+8*x.n) x.fn } }:BV));(go_wp2_with fail);refine (zes base x.ra x.rn x.rc x.B.v.rows (K+1+1+8*x.n+5*x.fn) _ ow.v.rows (by omega) (by omega) (by omega)).mono ?_;rintro e w6 ⟨rfl,o6,hg6⟩;have st6:BOs w6 base (some ⟨g,0,none⟩) n cap (pre++({ x with B:={ x.B with id:=K,name:=mtx (K+1),ports:=zaJ (K+1+1) x.n,f:=zaL (K+1+1+8*x.n) x.fn,v:=⟨zaR (K+1+1+8*x.n+5*x.fn) x.rn,x.B.v.own⟩ } }:BV)::post):=st5.inner (Only.of_grown hg6) (fun b hb=>zaP.2 (.inr (.inr (.inl hb)))) rfl rfl ⟨zu ow.ports ow.v.rows (by decide) hg6,zu ow.f ow.v.rows (by decide) hg6,⟨o6,zu ow.v.own ow.v.rows (by decide) hg6,ow.v.i64⟩⟩;have O6:=zbg O5 (Only.of_grown hg6) (fun b hb=>HIN.out b (zaP.2 (.inr (.inr (.inl hb)))));clear st5 O5 o6 hg6 ow t0 t1 t2 t3 t4 t5 t6 t7 t8 t9 t10 f0 f1 f2 f3 f4 f5 f6 f7 f8 f9 f10;have ow:=st6.mid;obtain ⟨⟨t0,t1,t2,t3,t4,t5,t6,t7,t8,t9,t10⟩,f0,f1,f2,f3,f4,f5,f6,f7,f8,f9,f10⟩:=zN st6.row (HAT.out ({ x with B:={ x.B with id:=K,name:=mtx (K+1),ports:=zaJ (K+1+1) x.n,f:=zaL (K+1+1+8*x.n) x.fn,v:=⟨zaR (K+1+1+8*x.n+5*x.fn) x.rn,x.B.v.own⟩ } }:BV));(go_wp2_with fail);refine (zhz base x.oa x.on x.oc x.B.v.own (K+1+1+8*x.n+5*x.fn+3*x.rn) _ ow.v.own (by omega) (by omega) (by omega)).mono ?_;rintro e w7 ⟨rfl,o7,hg7⟩;have st7:BOs w7 base (some ⟨g,0,none⟩) n cap (pre++({ x with B:={ x.B with id:=K,name:=mtx (K+1),ports:=zaJ (K+1+1) x.n,f:=zaL (K+1+1+8*x.n) x.fn,v:=⟨zaR (K+1+1+8*x.n+5*x.fn) x.rn,zaM (K+1+1+8*x.n+5*x.fn+3*x.rn) x.on⟩ } }:BV)::post):=st6.inner (Only.of_grown hg7) (fun b hb=>zaP.2 (.inr (.inr (.inr hb)))) rfl rfl ⟨zu ow.ports ow.v.own (by decide) hg7,zu ow.f ow.v.own (by decide) hg7,⟨zu ow.v.rows ow.v.own (by decide) hg7,o7,zhI _ _ (by omega) (by omega) (by omega)⟩⟩;have O7:=zbg O6 (Only.of_grown hg7) (fun b hb=>HIN.out b (zaP.2 (.inr (.inr (.inr hb)))));clear st6 O6 o7 hg7 ow t0 t1 t2 t3 t4 t5 t6 t7 t8 t9 t10 f0 f1 f2 f3 f4 f5 f6 f7 f8 f9 f10;obtain ⟨EE,hEE⟩:∃EE,EE=endW K x:=⟨_,rfl⟩;have hEv:K+1+1+8*(x.n:Int)+5*(x.fn:Int)+3*(x.rn:Int)+(x.on:Int)=EE:=by rw [hEE]; rfl
   have e1:0 < EE∧EE≤16777216:=by omega
   obtain ⟨⟨t0,t1,t2,t3,t4,t5,t6,t7,t8,t9,t10⟩,f0,f1,f2,f3,f4,f5,f6,f7,f8,f9,f10⟩:=zN st7.row (HAT.out ({ x with B:={ x.B with id:=K,name:=mtx (K+1),ports:=zaJ (K+1+1) x.n,f:=zaL (K+1+1+8*x.n) x.fn,v:=⟨zaR (K+1+1+8*x.n+5*x.fn) x.rn,zaM (K+1+1+8*x.n+5*x.fn+3*x.rn) x.on⟩ } }:BV));have st8:=st7.cell (u:=.int .i64 EE) (x':=({ x with B:={ x.B with id:=K,name:=mtx (K+1),ports:=zaJ (K+1+1) x.n,f:=zaL (K+1+1+8*x.n) x.fn,v:=⟨zaR (K+1+1+8*x.n+5*x.fn) x.rn,zaM (K+1+1+8*x.n+5*x.fn+3*x.rn) x.on⟩,ticks:=EE } }:BV)) (jj:=6) (a:=j*11+6) (by decide) (by have:=HJ.out; omega) rfl rfl (fun h=>⟨h.ports,h.f,h.v⟩);have st9:=st8.cell (u:=.int .i64 (EE+1)) (x':=({ x with B:={ x.B with id:=K,name:=mtx (K+1),ports:=zaJ (K+1+1) x.n,f:=zaL (K+1+1+8*x.n) x.fn,v:=⟨zaR (K+1+1+8*x.n+5*x.fn) x.rn,zaM (K+1+1+8*x.n+5*x.fn+3*x.rn) x.on⟩,ticks:=EE,parse:=EE+1 } }:BV)) (jj:=7) (a:=j*11+7) (by decide) (by have:=HJ.out; omega) rfl rfl (fun h=>⟨h.ports,h.f,h.v⟩);have st10:=st9.cell (u:=.int .i64 (EE+1+1)) (x':=({ x with B:={ x.B with id:=K,name:=mtx (K+1),ports:=zaJ (K+1+1) x.n,f:=zaL (K+1+1+8*x.n) x.fn,v:=⟨zaR (K+1+1+8*x.n+5*x.fn) x.rn,zaM (K+1+1+8*x.n+5*x.fn+3*x.rn) x.on⟩,ticks:=EE,parse:=EE+1,word:=EE+1+1 } }:BV)) (jj:=8) (a:=j*11+8) (by decide) (by have:=HJ.out; omega) rfl rfl (fun h=>⟨h.ports,h.f,h.v⟩);have st11:=st10.cell (u:=.int .i64 (EE+1+1+1)) (x':=({ x with B:={ x.B with id:=K,name:=mtx (K+1),ports:=zaJ (K+1+1) x.n,f:=zaL (K+1+1+8*x.n) x.fn,v:=⟨zaR (K+1+1+8*x.n+5*x.fn) x.rn,zaM (K+1+1+8*x.n+5*x.fn+3*x.rn) x.on⟩,ticks:=EE,parse:=EE+1,word:=EE+1+1,drops:=EE+1+1+1 } }:BV)) (jj:=9) (a:=j*11+9) (by decide) (by have:=HJ.out; omega) rfl rfl (fun h=>⟨h.ports,h.f,h.v⟩);have st12:=st11.cell (u:=.int .i64 (EE+1+1+1+1)) (x':=({ x with B:={ x.B with id:=K,name:=mtx (K+1),ports:=zaJ (K+1+1) x.n,f:=zaL (K+1+1+8*x.n) x.fn,v:=⟨zaR (K+1+1+8*x.n+5*x.fn) x.rn,zaM (K+1+1+8*x.n+5*x.fn+3*x.rn) x.on⟩,ticks:=EE,parse:=EE+1,word:=EE+1+1,drops:=EE+1+1+1,vers:=EE+1+1+1+1 } }:BV)) (jj:=10) (a:=j*11+10) (by decide) (by have:=HJ.out; omega) rfl rfl (fun h=>⟨h.ports,h.f,h.v⟩);have HST:=hide st12;have HO:=hide (zbg (zbg (zbg (zbg (zbg O7 (Only.set _ g (j*11+6) (.int .i64 EE)) HG.out) (Only.set _ g (j*11+7) (.int .i64 (EE+1))) HG.out) (Only.set _ g (j*11+8) (.int .i64 (EE+1+1))) HG.out) (Only.set _ g (j*11+9) (.int .i64 (EE+1+1+1))) HG.out) (Only.set _ g (j*11+10) (.int .i64 (EE+1+1+1+1))) HG.out);have HXX:Hid (({ x with B:={ x.B with id:=K,name:=mtx (K+1),ports:=zaJ (K+1+1) x.n,f:=zaL (K+1+1+8*x.n) x.fn,v:=⟨zaR (K+1+1+8*x.n+5*x.fn) x.rn,zaM (K+1+1+8*x.n+5*x.fn+3*x.rn) x.on⟩,ticks:=EE,parse:=EE+1,word:=EE+1+1,drops:=EE+1+1+1,vers:=EE+1+1+1+1 } }:BV)=markV K x):=hide (by rw [hEE]; rfl);have HEV:Hid (endV K x=EE+1+1+1+1+1):=hide (by rw [hEE]; rfl);rw [hEv];clear st7 st8 st9 st10 st11 st12 O7 hEE;go_wp2
   go_roundw
   case rel=>exact ⟨j+1,by omega,by go_num,by rw [HE.out,HEV.out],by rw [HM.out,← HXX.out,List.append_assoc,HPO.out]; exact HST.out,HO.out⟩
   case measure=>simp [intOf]; omega
  ·have hj':j=n:=by omega
   subst hj';rw [List.drop_eq_nil_of_le (by omega),List.append_nil,List.take_of_length_le (by omega)] at st;rw [List.take_of_length_le (by omega)];have HO:=hide st;have HN:=hide O;clear st O h;go_wp2;go_ret;exact ⟨rfl,HO.out,HN.out⟩

theorem zho (ao:Option Addr) (n cap:Nat) (l:List BV) (K0:Int) (w:World) (h:GRow brF w ao n cap (zaW K0 l)) (hr:∀x∈zaW K0 l,x.Reads w) (hk0:0 < K0) (hT:endVs K0 l≤16777216) :
  Calls Tryz.prog 42 #[.slice ao n cap,.int .i64 K0] w fun e w'=>e=.returned (.int .i64 (endVs K0 l))∧Below w.heap.size w w':=by
 have hl:l.length=n:=by have:=h.size; rw [zdh] at this; exact this
 have hn:n≤16777216:=by have:=zgc l K0; omega
 go_enter Tryz.func42,Tryz.ntmps42;go_wp2
 go_loopw [1,5] (fun m i wr=>∃j:Nat,j≤n∧i=.int .i64 j∧m=.int .i64 (endVs K0 (l.take j))∧Below w.heap.size w wr) (fun _ i _=>n - (intOf i).toNat)
 case atStart=>exact ⟨0,Nat.zero_le _,rfl,rfl,Below.refl _ _⟩
 case round =>
  obtain ⟨j,hj,rfl,rfl,hb⟩:=hrel;by_cases hlt:j < n
  ·obtain ⟨x,hx⟩:∃x,l[j]?=some x:=⟨l[j]'(by omega),List.getElem?_eq_getElem (by omega)⟩;have htk:l.take (j+1)=l.take j++[x]:=by rw [List.take_add_one,hx]; rfl
   have hKb:=zih hx K0;unfold endV endW at hKb;have HE:Hid (endVs K0 (l.take (j+1))=endV (endVs K0 (l.take j)) x):=hide (by rw [htk,zdx]);obtain ⟨z,b,off,hz,rfl,-⟩:=br_at (h.below hb) j hlt;have hzx:z=markV (endVs K0 (l.take j)) x:=by
    have e:l=l.take j++x::l.drop (j+1):=by
     obtain ⟨h,rfl⟩:=List.getElem?_eq_some_iff.1 hx;rw [← List.drop_eq_getElem_cons h,List.take_append_drop]
    have hc:=zj4 (l.take j) x (l.drop (j+1)) K0;rw [← e,List.length_take,Nat.min_eq_left (by omega),hz] at hc;exact Option.some.inj hc
   have hrz:=hr z (List.mem_of_getElem? hz);subst hzx;have HS:Hid (∀W,Below wr.heap.size wr W→W.cell? ⟨b,off+j*11,none⟩=some (.int .i64 (markV (endVs K0 (l.take j)) x).B.id)∧W.cell? ⟨b,off+j*11+1,none⟩=some (.string (markV (endVs K0 (l.take j)) x).B.name)∧W.cell? ⟨b,off+j*11+2,none⟩=some (.slice (markV (endVs K0 (l.take j)) x).a (markV (endVs K0 (l.take j)) x).n (markV (endVs K0 (l.take j)) x).c)∧W.cell? ⟨b,off+j*11+3,none⟩=some (.slice (markV (endVs K0 (l.take j)) x).fa (markV (endVs K0 (l.take j)) x).fn (markV (endVs K0 (l.take j)) x).fc)∧W.cell? ⟨b,off+j*11+4,none⟩=some (.slice (markV (endVs K0 (l.take j)) x).ra (markV (endVs K0 (l.take j)) x).rn (markV (endVs K0 (l.take j)) x).rc)∧W.cell? ⟨b,off+j*11+5,none⟩=some (.slice (markV (endVs K0 (l.take j)) x).oa (markV (endVs K0 (l.take j)) x).on (markV (endVs K0 (l.take j)) x).oc)∧W.cell? ⟨b,off+j*11+6,none⟩=some (.int .i64 (markV (endVs K0 (l.take j)) x).B.ticks)∧W.cell? ⟨b,off+j*11+7,none⟩=some (.int .i64 (markV (endVs K0 (l.take j)) x).B.parse)∧W.cell? ⟨b,off+j*11+8,none⟩=some (.int .i64 (markV (endVs K0 (l.take j)) x).B.word)∧W.cell? ⟨b,off+j*11+9,none⟩=some (.int .i64 (markV (endVs K0 (l.take j)) x).B.drops)∧W.cell? ⟨b,off+j*11+10,none⟩=some (.int .i64 (markV (endVs K0 (l.take j)) x).B.vers)):=hide (fun W hW=>zO (h.below hb) hW hz);generalize hK:endVs K0 (l.take j)=KK at *;have i1:(0:Int)≤(j:Int):=by omega
   have i2:(j:Int) < (n:Int):=by omega
   have k1:0 < KK∧KK≤16777216:=by omega
   have k2:KK+1+1+8*(x.n:Int)+5*(x.fn:Int)+3*(x.rn:Int)+(x.on:Int)≤16777216:=by omega
   have HS:Hid (∀W,Below wr.heap.size wr W→W.cell? ⟨b,off+j*11,none⟩=some (.int .i64 KK)∧W.cell? ⟨b,off+j*11+1,none⟩=some (.string (mtx (KK+1)))∧W.cell? ⟨b,off+j*11+2,none⟩=some (.slice x.a x.n x.c)∧W.cell? ⟨b,off+j*11+3,none⟩=some (.slice x.fa x.fn x.fc)∧W.cell? ⟨b,off+j*11+4,none⟩=some (.slice x.ra x.rn x.rc)∧W.cell? ⟨b,off+j*11+5,none⟩=some (.slice x.oa x.on x.oc)∧W.cell? ⟨b,off+j*11+6,none⟩=some (.int .i64 (endW KK x))∧W.cell? ⟨b,off+j*11+7,none⟩=some (.int .i64 (endW KK x+1))∧W.cell? ⟨b,off+j*11+8,none⟩=some (.int .i64 (endW KK x+1+1))∧W.cell? ⟨b,off+j*11+9,none⟩=some (.int .i64 (endW KK x+1+1+1))∧W.cell? ⟨b,off+j*11+10,none⟩=some (.int .i64 (endW KK x+1+1+1+1))):=HS;have HB:=hide hb;clear hx htk hKb hz hb hK;obtain ⟨t0,-⟩:=HS.out _ (Below.refl _ wr);have vv:Below wr.heap.size wr wr.drew:=zp (Below.refl _ _);(go_wp2_with fail);refine wp_region_held_drew (S:=(fun W=>W.cell? ⟨b,off+j*11+1,none⟩=some (.string (mtx (KK+1))))) (by kernel_rfl) ((HS.out _ vv).2.1) (fun hHeld => ?_);refine kK 0 ⟨some 21,.move (.tmp 0),30,"exact.go:1239",#[],none⟩ ?_;refine kK 1 ⟨some 22,.move (.tmp 5),3,"exact.go:1239",#[],none⟩ ?_;refine kK 2 ⟨some 23,.indexAddr 30 (.tmp 21) (.tmp 22),0,"exact.go:1239",#[⟨0,.data⟩,⟨1,.data⟩],none⟩ ?_;refine kK 3 ⟨some 24,.fieldAddr 64 (.tmp 23) 1,0,"exact.go:1239",#[⟨2,.data⟩],none⟩ ?_;refine kK 4 ⟨some 25,.load 9 (.tmp 24),9,"exact.go:1239",#[⟨3,.data⟩],none⟩ ?_;refine kK 5 ⟨some 26,.move (.tmp 1),3,"exact.go:1239",#[],none⟩ ?_;refine kR 6 ⟨some 27,.call ⟨.value (.func 82),#[.tmp 26],#[3]⟩,9,"exact.go:1239",#[⟨5,.data⟩],none⟩ (fun K hK => ?_);go_simp;refine (zdI (KK+1) _ (by omega) (by omega)).mono ?_;rintro r wz ⟨rfl,hms,hbz⟩;clear hms;have vv:=zc vv hbz;(go_wp2_with fail);refine hK.out _ _ ((HS.out _ vv).2.1) (fun hHeld => ?_);clear hK K;(try simp only [Act.put,lA,lB,lC]);refine kK 7 ⟨some 28,.binOp .neq 9 (.tmp 25) (.tmp 27) 9,4,"exact.go:1239",#[⟨4,.data⟩,⟨6,.data⟩],none⟩ ?_;refine wpAnyH_done (by kernel_rfl) ?_ _;clear hHeld t0;obtain ⟨-,-,t2,t3,t4,t5,-⟩:=HS.out _ vv;have hrw:=hrz.below (zc HB.out vv);(go_wp2_with fail);refine (zhp x.a x.n x.c (KK+1+1) _ hrw.ports (by omega) (by omega) (by omega)).mono ?_;rintro e w3 ⟨rfl,hb3⟩;have vv:=zc vv hb3;clear t2 t3 t4 t5 hrw hb3;obtain ⟨-,-,t2,t3,t4,t5,-⟩:=HS.out _ vv;have hrw:=hrz.below (zc HB.out vv);have j1:¬(KK+1+1+8*(x.n:Int) < 0):=by omega
   (go_wp2_with fail);refine (zfy x.fa x.fn x.fc (KK+1+1+8*x.n) _ hrw.f (by omega) (by omega) (by omega)).mono ?_;rintro e w4 ⟨rfl,hb4⟩;have vv:=zc vv hb4;clear t2 t3 t4 t5 hrw hb4 j1;obtain ⟨-,-,t2,t3,t4,t5,-⟩:=HS.out _ vv;have hrw:=hrz.below (zc HB.out vv);have j1:¬(KK+1+1+8*(x.n:Int)+5*(x.fn:Int) < 0):=by omega
   (go_wp2_with fail);refine (zfA x.ra x.rn x.rc (KK+1+1+8*x.n+5*x.fn) _ hrw.v.rows (by omega) (by omega) (by omega)).mono ?_;rintro e w5 ⟨rfl,hb5⟩;have vv:=zc vv hb5;clear t2 t3 t4 t5 hrw hb5 j1;obtain ⟨-,-,t2,t3,t4,t5,-⟩:=HS.out _ vv;have hrw:=hrz.below (zc HB.out vv);have j1:¬(KK+1+1+8*(x.n:Int)+5*(x.fn:Int)+3*(x.rn:Int) < 0):=by omega
   (go_wp2_with fail);refine (zjP x.oa x.on x.oc (KK+1+1+8*x.n+5*x.fn+3*x.rn) _ hrw.v.own (by omega) (by omega) (by omega)).mono ?_;rintro e w6 ⟨rfl,e6⟩;obtain rfl:=e6.symm;clear t2 t3 t4 t5 hrw j1;obtain ⟨-,-,-,-,-,-,t6,t7,t8,t9,t10⟩:=HS.out _ vv;have HEV:Hid (endV KK x=endW KK x+1+1+1+1+1):=hide rfl;have hEv:KK+1+1+8*(x.n:Int)+5*(x.fn:Int)+3*(x.rn:Int)+(x.on:Int)=endW KK x:=rfl;rw [hEv];have e1:0 < endW KK x∧endW KK x≤16777216:=by omega
   have HV:=hide (zc HB.out vv);clear hEv vv;generalize hEE:endW KK x=EE at *;have j1:¬(EE < 0):=by omega
   go_wp2
   go_roundw
   case rel=>exact ⟨j+1,by omega,by go_num,by rw [HE.out,HEV.out],HV.out⟩
   case measure=>simp [intOf]; omega
  ·have hj':j=n:=by omega
   subst hj';rw [List.take_of_length_le (by omega)];go_wp2;go_ret;exact ⟨rfl,hb⟩

theorem zeo (k:Int) (c:Nat) (w:World) :
  Calls Tryz.prog 39 #[.slice none 0 c,.int .i64 k] w fun r w'=>r=.returned (.int .i64 k)∧w'=w:=by
 go_enter Tryz.func39,Tryz.ntmps39;go_wp2
 go_loop [1,5] (fun m i=>m=.int .i64 k∧i=.int .i64 0) (fun _ _=>0)
 case atStart=>exact ⟨rfl,rfl⟩
 case round =>
  obtain ⟨rfl,rfl⟩:=hrel;go_wp2;go_ret;exact ⟨rfl,rfl⟩

theorem zjm {w:World} {base X:Nat} {ao:Option Addr} {n cap:Nat} {l:List BV} {cs:Array Value} {T:TypeId} (h:BOs w base ao n cap l) (hX:w.heap[X]?=some (.cells cs T)) (h0:(64:Nat)≠T) (h1:(103:Nat)≠T) (h2:(149:Nat)≠T) (h3:(184:Nat)≠T) (h4:(3:Nat)≠T):X∉allB ao l:=by
 intro hm;rcases List.mem_append.1 hm with hm | hm
 ·exact zy h.row hX h0 X (zR.2 hm) rfl
 ·obtain ⟨x,hx,hb⟩:=List.mem_flatMap.1 hm;have o:=h.item x hx;rcases zaP.1 hb with hb | hb | hb | hb
  ·exact zy o.ports hX h1 X (zR.2 hb) rfl
  ·exact zy o.f hX h2 X (zR.2 hb) rfl
  ·exact zy o.v.rows hX h3 X (zR.2 hb) rfl
  ·exact zy o.v.own hX h4 X (zR.2 hb) rfl

def zfc (k:Int):SY:=⟨k,(k+1) % 3 == 0,⟨k+1+1,k+1+1+1,k+1+1+1+1,k+1+1+1+1+1,k+1+1+1+1+1+1⟩⟩
def zbG (k:Int) (n:Nat):List SY:=(List.range n).map fun (i:Nat)=>zfc (k+7*i)

theorem zfR (k:Int) (n:Nat):(zbG k n).length=n:=by simp [zbG]
theorem zhF (k:Int) (j:Nat):zbG k (j+1)=zbG k j++[zfc (k+7*j)]:=by simp [zbG,List.range_succ]
theorem zj3 (k:Int) (n j:Nat) (h:j < n):(zbG k n)[j]?=some (zfc (k+7*j)):=by simp [zbG,List.getElem?_map,List.getElem?_range h]

theorem zhE (base g n cap:Nat) (l:List SY) (k:Int) (w:World) (hown:w.ownsRow base 105 7 (.slice (some ⟨g,0,none⟩) n cap) n (sayF.all l)) (hn:n≤16777216) (hk0:0≤k) (hk1:k≤1099511627776) :
  Calls Tryz.prog 41 #[.slice (some ⟨g,0,none⟩) n cap,.int .i64 k] w fun r w'=>r=.returned (.int .i64 (k+7*n))∧w'.ownsRow base 105 7 (.slice (some ⟨g,0,none⟩) n cap) n (sayF.all (zbG k n))∧w.grownBy w' (some g):=by
 have hl:l.length=n:=(zB (F:=sayF) hown).size;go_enter Tryz.func41,Tryz.ntmps41;go_wp2
 go_loopw [1,5] (fun m i wr=>∃j:Nat,j≤n∧i=.int .i64 j∧m=.int .i64 (k+7*j)∧wr.ownsRow base 105 7 (.slice (some ⟨g,0,none⟩) n cap) n (sayF.all (zbG k j++l.drop j))∧w.grownBy wr (some g)) (fun _ i _=>n - (intOf i).toNat)
 case atStart=>exact ⟨0,Nat.zero_le _,rfl,by simp,by simpa [zbG] using hown,World.grownBy.refl _ _⟩
 case round =>
  obtain ⟨j,hj,rfl,rfl,how,hg⟩:=hrel;by_cases hlt:j < n
  ·obtain ⟨x,hx⟩:∃x,l[j]?=some x:=⟨l[j]'(by omega),List.getElem?_eq_getElem (by omega)⟩;have hdr:l.drop j=x::l.drop (j+1):=by
    obtain ⟨h,rfl⟩:=List.getElem?_eq_some_iff.1 hx;exact List.drop_eq_getElem_cons h
   rw [hdr] at how;have hlj:=zfR k j;have hz:(zbG k j++x::l.drop (j+1))[j]?=some x:=by rw [List.getElem?_append_right (by omega),hlj,Nat.sub_self]; rfl
   obtain ⟨⟨t0,t1,t2,t3,t4,t5,t6⟩,f0,f1,f2,f3,f4,f5,f6⟩:=zgQ how hz;have o3:=zki (y:=zfc (k+7*j)) how;rw [hlj] at o3;have HO3:=hide o3;have HG:=hide (zz hg (ziE (w:=wr) (g:=g) (j:=j*7) (y:=zfc (k+7*j))));have HM:=hide (zhF k j);have hm:0≤k+7*(j:Int)∧k+7*(j:Int)≤2199023255552:=by omega
   clear how hg hown o3 hz hdr;generalize hK:k+7*(j:Int)=K at *;go_wp2
   go_roundw
   case rel=>exact ⟨j+1,by omega,by go_num,by simp; omega,by rw [HM.out,List.append_assoc]; exact HO3.out,HG.out⟩
   case measure=>simp [intOf]; omega
  ·have hj':j=n:=by omega
   subst hj';rw [List.drop_eq_nil_of_le (by omega),List.append_nil] at how;have HO:=hide how;clear how hown;go_wp2;go_ret;exact ⟨rfl,HO.out,hg⟩

theorem zeO (base:Nat) (ao:Option Addr) (n cap:Nat) (l:List SY) (k:Int) (w:World) (hown:w.ownsRow base 105 7 (.slice ao n cap) n (sayF.all l)) (hn:n≤16777216) (hk0:0≤k) (hk1:k≤1099511627776) :
  Calls Tryz.prog 41 #[.slice ao n cap,.int .i64 k] w fun r w'=>r=.returned (.int .i64 (k+7*n))∧w'.ownsRow base 105 7 (.slice ao n cap) n (sayF.all (zbG k n))∧w.grownBy w' (Value.slice ao n cap).ownBlock:=by
 rcases hown.2 with ⟨e,h0⟩ | ⟨g,cap',cur,e,-⟩
 ·cases e;refine (zgC k 0 w).mono ?_;rintro r w' ⟨rfl,rfl⟩;exact ⟨by simp,by simpa [zbG,Flat.all] using World.ownsRow_nil w' base 105 7,World.grownBy.refl _ _⟩
 ·cases e;exact zhE base g n cap l k w hown hn hk0 hk1

theorem zgm (ao:Option Addr) (n cap:Nat) (k:Int) (w:World) (h1:GRow sayF w ao n cap (zbG k n)) (hn:n≤16777216) (hk0:0≤k) (hk1:k≤1099511627776) :
  Calls Tryz.prog 44 #[.slice ao n cap,.int .i64 k] w fun r w'=>r=.returned (.int .i64 (k+7*n))∧Below w.heap.size w w':=by
 go_enter Tryz.func44,Tryz.ntmps44;go_wp2
 go_loopw [1,5] (fun m i wr=>∃j:Nat,j≤n∧i=.int .i64 j∧m=.int .i64 (k+7*j)∧Below w.heap.size w wr) (fun _ i _=>n - (intOf i).toNat)
 case atStart=>exact ⟨0,Nat.zero_le _,rfl,by simp,Below.refl _ _⟩
 case round =>
  obtain ⟨j,hj,rfl,rfl,hb⟩:=hrel;by_cases hlt:j < n
  ·obtain ⟨x,b,off,hx,rfl,c0,c1,c2,c3,c4,c5,c6⟩:=zdM (h1.below hb) j hlt;rw [zj3 k n j hlt] at hx;cases hx;have hm:0≤k+7*(j:Int)∧k+7*(j:Int)≤2199023255552:=by omega
   unfold zfc at c0 c1 c2 c3 c4 c5 c6;generalize hK:k+7*(j:Int)=K at *;go_wp2
   go_roundw
   case rel=>exact ⟨j+1,by omega,by go_num,by simp; omega,hb⟩
   case measure=>simp [intOf]; omega
  ·have hj':j=n:=by omega
   subst hj';go_wp2;go_ret;exact ⟨rfl,hb⟩

theorem zhx (base:Nat) (ao:Option Addr) (n cap:Nat) (l:List BV) (K0:Int) (w:World) (h:BOs w base ao n cap l) (hk0:0 < K0) (hT:endVs K0 l≤16777216) :
  Calls Tryz.prog 39 #[.slice ao n cap,.int .i64 K0] w fun e w'=>e=.returned (.int .i64 (endVs K0 l))∧BOs w' base ao n cap (zaW K0 l)∧Only (allB ao l) w w':=by
 rcases h.row.2 with ⟨e,h0⟩ | ⟨g,cap',cur,e,-⟩
 ·cases e;have hl:l=[]:=List.eq_nil_of_length_eq_zero h.grow.size;subst hl;refine (zeo K0 0 w).mono ?_;rintro r w' ⟨rfl,rfl⟩;exact ⟨rfl,h,Only.refl _ _⟩
 ·cases e;exact zi7 base g n cap l K0 w h hk0 hT

def markM (M:NV):NV:={ M with bs:=zaW 1 M.bs,ls:=zbF (endVs 1 M.bs) M.ln,ss:=zbG (endVs 1 M.bs+4*M.ln) M.sn }
def endM (M:NV):Int:=endVs 1 M.bs+4*M.ln+7*M.sn
def NV.blksA (M:NV):List Nat:=allB M.ba M.bs++(blkL M.la++blkL M.sa)
def NV.Fits (M:NV):Prop:=endVs 1 M.bs≤16777216∧M.ln≤1048576∧M.sn≤1048576

theorem NOwn.blk {w:World} {base:Nat} {M:NV} (h:NOwn w base M):∀b∈M.blksA,base≤b∧b < w.heap.size:=by
 intro b hb;rcases List.mem_append.1 hb with hb | hb
 ·exact h.b.blk b hb
 ·rcases List.mem_append.1 hb with hb | hb
  ·exact h.l.lt b (zR.2 hb)
  ·exact h.s.lt b (zR.2 hb)

theorem zdk {w:World} {base base' k n0 m:Nat} {T:TypeId} {a:Option Addr} {n c:Nat} {xs:List Value} {ao:Option Addr} {cap:Nat} {l:List BV} (hs:w.ownsRow base' T k (.slice a n c) n0 xs) (hb:BOs w base ao m cap l) (h0:(64:Nat)≠T) (h1:(103:Nat)≠T) (h2:(149:Nat)≠T) (h3:(184:Nat)≠T) (h4:(3:Nat)≠T):∀b∈blkL a,b∉allB ao l:=by
 intro b hb';rcases hs.2 with ⟨e,_⟩ | ⟨g,cap',cur,e,_,hh,_⟩
 ·cases e':a with
  | none=>rw [e'] at hb'; cases hb'
  | some q=>rw [e'] at e; cases e
 ·cases e':a with
  | none=>rw [e'] at hb'; cases hb'
  | some q =>
   rw [e'] at e hb';cases e
   simp [blkL] at hb'
   subst hb';exact zjm hb hh h0 h1 h2 h3 h4

theorem NOwn.box_apart {w:World} {base X:Nat} {M:NV} {cs:Array Value} (h:NOwn w base M) (hX:w.heap[X]?=some (.cells cs 34)):X∉M.blksA:=by
 intro hm;rcases List.mem_append.1 hm with hm | hm
 ·exact zjm h.b hX (by decide) (by decide) (by decide) (by decide) (by decide) hm
 ·rcases List.mem_append.1 hm with hm | hm
  ·exact zy h.l hX (by decide) X (zR.2 hm) rfl
  ·exact zy h.s hX (by decide) X (zR.2 hm) rfl

theorem NOwn.only {bs:List Nat} {w w':World} {base:Nat} {M:NV} (h:NOwn w base M) (ho:Only bs w w') (hn:∀b∈M.blksA,b∉bs):NOwn w' base M :=
 ⟨h.b.only ho (fun b hb=>hn b (List.mem_append_left _ hb)),ho.own h.l (fun k hk=>hn k (List.mem_append_right _ (List.mem_append_left _ (zR.1 hk)))),ho.own h.s (fun k hk=>hn k (List.mem_append_right _ (List.mem_append_right _ (zR.1 hk))))⟩

theorem zer (base:Nat) (M:NV) (w:World) (h:NOwn w base M) (hf:M.Fits) :
  Calls Tryz.prog 11 #[.agg #[.slice M.ba M.bn M.bc,.slice M.la M.ln M.lc,.slice M.sa M.sn M.sc],.int .i64 1] w fun e w'=>e=.returned (.int .i64 (endM M))∧NOwn w' base (markM M)∧Only M.blksA w w':=by
 have hKb:=zcz M.bs 1;obtain ⟨hT,hl,hs⟩:=hf;generalize hw1:w.alloc (Obj.cells #[.slice M.ba M.bn M.bc,.slice M.la M.ln M.lc,.slice M.sa M.sn M.sc] 34)=w1;have b01:=zb hw1;have k1:=zk hw1;have h1:=h.below b01;obtain ⟨x0,x1,x2⟩:=zV k1;go_enter Tryz.func11,Tryz.ntmps11;go_wp2_with fail
 refine (zhx base M.ba M.bn M.bc M.bs 1 _ h1.b (by omega) hT).mono ?_;rintro e w2 ⟨rfl,hB2,O2⟩;have k2:=O2.kept k1 (fun hm=>h1.box_apart k1 (List.mem_append_left _ hm));have apL:=zdk h1.l h1.b (by decide) (by decide) (by decide) (by decide) (by decide);have apS:=zdk h1.s h1.b (by decide) (by decide) (by decide) (by decide) (by decide);have l2:=O2.own h1.l (fun k hk=>apL k (zR.1 hk));have s2:=O2.own h1.s (fun k hk=>apS k (zR.1 hk));have HK:=hide hKb;generalize hEV:endVs 1 M.bs=EV at *;clear x0 x1 x2;obtain ⟨x0,x1,x2⟩:=zV k2;go_wp2_with fail
 refine (zeq base M.la M.ln M.lc M.ls EV _ l2 (by omega) (by omega) (by omega)).mono ?_;rintro e w3 ⟨rfl,l3,hg3⟩;have O3:=Only.of_grown hg3;have hB3:BOs w3 base M.ba M.bn M.bc (zaW 1 M.bs):=hB2.only O3 (fun b hb hc=>apL b hc (by unfold allB at hb ⊢; rw [zet] at hb; exact hb));have s3:=zu s2 l2 (by decide) hg3;have k3:=ze k2 hg3 (fun k hk=>zy l2 k2 (by decide) k hk);clear x0 x1 x2;obtain ⟨x0,x1,x2⟩:=zV k3;go_wp2_with fail
 refine (zeO base M.sa M.sn M.sc M.ss (EV+4*M.ln) _ s3 (by omega) (by omega) (by omega)).mono ?_;rintro e w4 ⟨rfl,s4,hg4⟩;have O4:=Only.of_grown hg4;have hB4:BOs w4 base M.ba M.bn M.bc (zaW 1 M.bs):=hB3.only O4 (fun b hb hc=>apS b hc (by unfold allB at hb ⊢; rw [zet] at hb; exact hb));have l4:=zu l3 s3 (by decide) hg4;have HO:Hid (NOwn w4 base (markM M)):=hide ⟨hB4,by unfold markM; rw [hEV]; exact l4,by unfold markM; rw [hEV]; exact s4⟩;have HN:Hid (Only M.blksA w w4):=hide (zbg (zbg (zbg (Only.of_below (bs:=M.blksA) b01) O2 (fun b hb=>List.mem_append_left _ hb)) O3 (fun b hb=>List.mem_append_right _ (List.mem_append_left _ hb))) O4 (fun b hb=>List.mem_append_right _ (List.mem_append_right _ hb)));have HE:Hid (endM M=EV+4*M.ln+7*M.sn):=hide (by unfold endM; rw [hEV]);clear hB2 hB3 hB4 l2 l3 l4 s2 s3 s4 O2 O3 O4 hg3 hg4 k2 k3 x0 x1 x2 apL apS h1 h hw1 k1 b01;go_wp2;go_ret;exact ⟨by rw [HE.out]; rfl,HO.out,HN.out⟩

theorem zef (base:Nat) (M:NV) (w:World) (h:NOwn w base (markM M)) (hf:M.Fits) :
  Calls Tryz.prog 12 #[.agg #[.slice M.ba M.bn M.bc,.slice M.la M.ln M.lc,.slice M.sa M.sn M.sc],.int .i64 1] w fun e w'=>e=.returned (.int .i64 (endM M))∧Below w.heap.size w w':=by
 have hKb:=zcz M.bs 1;obtain ⟨hT,hl,hs⟩:=hf;have hr:=h.row;generalize hw1:w.alloc (Obj.cells #[.slice M.ba M.bn M.bc,.slice M.la M.ln M.lc,.slice M.sa M.sn M.sc] 34)=w1;have b01:=zb hw1;have k1:=zk hw1;obtain ⟨x0,x1,x2⟩:=zV k1;have hr1:=hr.below b01;go_enter Tryz.func12,Tryz.ntmps12;go_wp2_with fail
 refine (zho M.ba M.bn M.bc M.bs 1 _ hr1.b hr1.item (by omega) hT).mono ?_;rintro e w2 ⟨rfl,hb2⟩;have k2:=za k1 hb2;have b02:=zc b01 hb2;have hl2:GRow linkF w2 M.la M.ln M.lc (zbF (endVs 1 M.bs) M.ln):=(hr.below b02).l;have HK:=hide hKb;generalize hEV:endVs 1 M.bs=EV at *;have j1:¬(EV < 0):=by omega
 clear x0 x1 x2 hb2;obtain ⟨x0,x1,x2⟩:=zV k2;go_wp2_with fail
 refine (zfz M.la M.ln M.lc EV _ hl2 (by omega) (by omega) (by omega)).mono ?_;rintro e w3 ⟨rfl,hb3⟩;have k3:=za k2 hb3;have b03:=zc b02 hb3;have hs3:GRow sayF w3 M.sa M.sn M.sc (zbG (EV+4*M.ln) M.sn):=by rw [← hEV]; exact (hr.below b03).s
 have j2:¬(EV+4*(M.ln:Int) < 0):=by omega
 clear x0 x1 x2 hb3;obtain ⟨x0,x1,x2⟩:=zV k3;go_wp2_with fail
 refine (zgm M.sa M.sn M.sc (EV+4*M.ln) _ hs3 (by omega) (by omega) (by omega)).mono ?_;rintro e w4 ⟨rfl,hb4⟩;have b04:=zc b03 hb4;have j3:¬(EV+4*(M.ln:Int)+7*(M.sn:Int) < 0):=by omega
 have HE:Hid (endM M=EV+4*M.ln+7*M.sn):=hide (by unfold endM; rw [hEV]);have HB:=hide b04;clear x0 x1 x2 k3 k2 hr hr1 h hl2 hs3 hb4 b04;go_wp2;go_ret;exact ⟨by rw [HE.out]; rfl,HB.out⟩

theorem ziv {N:NV} {w:World} (h:zae w N) (hs:sizeN N≤1048576):N.Fits:=by
 obtain ⟨z1,z2,z3,z4⟩:=zeu h hs;refine ⟨?_,z2,z3⟩;have h1:=zjw N.bs 1;have key:∀l:List BV,(∀x∈l,x.Reads w)→(((l.map fun x=>1+x.n+x.fn+x.rn+x.on).sum:Nat):Int)≤l.length+zaj l:=by
  intro l
  induction l with
  | nil=>intro _; simp [zaj]
  | cons y r ih =>
   intro hr;have h2:=ih (fun x hx=>hr x (by simp [hx]));have o:=hr y (by simp);have q1:=o.ports.size;have q2:=o.f.size;have q3:=o.v.rows.size;have q4:=o.v.own.size;unfold zaj at h2 ⊢;simp only [List.map_cons,List.sum_cons,List.length_cons];unfold sizeB at h2 ⊢;omega
 have e:=key N.bs h.item;have e3:=h.b.size;unfold sizeN at hs;omega

end Go.Proofs.YtpaneiaflfegoaaGreat
