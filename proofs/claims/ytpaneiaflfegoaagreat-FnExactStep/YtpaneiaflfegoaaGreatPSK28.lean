/-
  Packed: NetMarkG NetMarkN.
-/
import Derived.Test.YtpaneiaflfegoaaGreatPSKW
import Derived.Test.YtpaneiaflfegoaaGreatPSK01
import Derived.Test.YtpaneiaflfegoaaGreatPSK27
namespace Go.Proofs.YtpaneiaflfegoaaGreat
set_option maxRecDepth 100000
set_option maxHeartbeats 16000000
open Go.RowKit

theorem zi1 (a b:List BV):∀K,endVs K (a++b)=endVs (endVs K a) b:=by
 induction a with
 | nil=>intro K; rfl
 | cons y r ih=>intro K; simp only [List.cons_append,endVs,ih]
theorem zcy (a:List BV):∀K,K≤endVs K a:=by
 induction a with
 | nil=>intro K; exact Int.le_refl _
 | cons y r ih =>
  intro K
  have:=ih (endV K y)
  simp only [endVs];unfold endV endW at this ⊢;omega
theorem zhP {l:List BV} {j:Nat} {x:BV} (h:l[j]?=some x) (K:Int):K≤endVs K (l.take j)∧endV (endVs K (l.take j)) x≤endVs K l:=by
 refine ⟨zcy _ K, ?_⟩;have e:l=(l.take j++[x])++l.drop (j+1):=by
  obtain ⟨hj,rfl⟩:=List.getElem?_eq_some_iff.1 h;rw [List.append_assoc,List.singleton_append,← List.drop_eq_getElem_cons hj,List.take_append_drop]
 have e2:endVs K l=endVs (endVs K (l.take j++[x])) (l.drop (j+1)):=by rw [← zi1,← e]
 rw [e2,zdq];exact zcy _ _
theorem zfU (a:List BV):∀K,K+a.length≤endVs K a:=by
 induction a with
 | nil=>intro K; simp [endVs]
 | cons y r ih =>
  intro K
  have:=ih (endV K y)
  simp only [endVs,List.length_cons];unfold endV endW at this ⊢;omega
theorem zi2 (l:List BV):∀K,endVs K l≤K+8*((l.map fun x=>1+x.n+x.fn+x.rn+x.on).sum:Nat):=by
 induction l with
 | nil=>intro K; simp [endVs]
 | cons y r ih =>
  intro K
  have:=ih (endV K y)
  simp only [endVs,List.map_cons,List.sum_cons];unfold endV endW at this ⊢;omega

theorem ziB (base g n cap:Nat) (l:List BV) (K0:Int) (w:World) (h:BOs w base (some ⟨g,0,none⟩) n cap l) (hk0:0 < K0) (hT:endVs K0 l≤16777216) :
  Calls Tryz.prog 39 #[.slice (some ⟨g,0,none⟩) n cap,.int .i64 K0] w fun e w'=>e=.returned (.int .i64 (endVs K0 l))∧BOs w' base (some ⟨g,0,none⟩) n cap (zaX K0 l)∧Only (allB (some ⟨g,0,none⟩) l) w w':=by
 have hl:l.length=n:=h.grow.size;have hn:n≤16777216:=by have:=zfU l K0; omega
 go_enter Tryz.func39,Tryz.ntmps39;go_wp2
 go_loopw [1,5] (fun m i wr=>∃j:Nat,j≤n∧i=.int .i64 j∧m=.int .i64 (endVs K0 (l.take j))∧BOs wr base (some ⟨g,0,none⟩) n cap (zaX K0 (l.take j)++l.drop j)∧Only (allB (some ⟨g,0,none⟩) l) w wr) (fun _ i _=>n - (intOf i).toNat)
 case atStart=>exact ⟨0,Nat.zero_le _,rfl,rfl,by simpa [zaX] using h,Only.refl _ _⟩
 case round =>
  obtain ⟨j,hj,rfl,rfl,st,O⟩:=hrel;by_cases hlt:j < n
  ·obtain ⟨x,hx⟩:∃x,l[j]?=some x:=⟨l[j]'(by omega),List.getElem?_eq_getElem (by omega)⟩;have hdr:l.drop j=x::l.drop (j+1):=by
    obtain ⟨h,rfl⟩:=List.getElem?_eq_some_iff.1 hx;exact List.drop_eq_getElem_cons h
   have htk:l.take (j+1)=l.take j++[x]:=by rw [List.take_add_one,hx]; rfl
   have hmem:=List.mem_of_getElem? hx;have hKb:=zhP hx K0;unfold endV endW at hKb;have HM:Hid (zaX K0 (l.take (j+1))=zaX K0 (l.take j)++[markV (endVs K0 (l.take j)) x]):=hide (by rw [htk,zhh]);have HE:Hid (endVs K0 (l.take (j+1))=endV (endVs K0 (l.take j)) x):=hide (by rw [htk,zdq]);have HJ:Hid ((zaX K0 (l.take j)).length=j):=hide (by rw [zdc,List.length_take]; omega);have HIN:Hid (∀b∈x.blks,b∈allB (some ⟨g,0,none⟩) l):=hide (fun b hb=>List.mem_append_right _ (List.mem_flatMap.2 ⟨x,hmem,hb⟩));have HG:Hid (∀b∈([g]:List Nat),b∈allB (some ⟨g,0,none⟩) l):=hide (fun b hb=>List.mem_append_left _ (by simpa [blkL] using hb));rw [hdr] at st;generalize hpr:zaX K0 (l.take j)=pre at *;generalize hpo:l.drop (j+1)=post at *;generalize hK:endVs K0 (l.take j)=K at *;have HAT:Hid (∀z:BV,(pre++z::post)[j]?=some z):=hide (fun z=>by rw [List.getElem?_append_right (by have:=HJ.out; omega),HJ.out,Nat.sub_self]; rfl);have HPO:=hide hpo;have i1:(0:Int)≤(j:Int):=by omega
   have i2:(j:Int) < (n:Int):=by omega
   have k1:0 < K∧K≤16777216:=by omega
   have k2:K+1+1+8*(x.n:Int)+5*(x.fn:Int)+3*(x.rn:Int)+(x.on:Int)≤16777216:=by omega
   clear hx hdr htk hKb hpr hpo hK hmem;obtain ⟨⟨t0,t1,t2,t3,t4,t5,t6,t7,t8,t9,t10⟩,f0,f1,f2,f3,f4,f5,f6,f7,f8,f9,f10⟩:=zO st.row (HAT.out x);generalize hw1:wr.setCell ⟨g,j*11,none⟩ (.int .i64 K)=w1;have st1:BOs w1 base (some ⟨g,0,none⟩) n cap (pre++({ x with B:={ x.B with id:=K } }:BV)::post):=by rw [← hw1]; exact st.cell (jj:=0) (by decide) (by have:=HJ.out; omega) rfl rfl (fun h=>⟨h.ports,h.f,h.v⟩)
   have O1:Only (allB (some ⟨g,0,none⟩) l) w w1:=by rw [← hw1]; exact zbj O (Only.set _ _ _ _) HG.out
   (go_wp2_with fail);refine (zdA (K+1) _ (by omega) (by omega)).mono ?_;rintro e w2 ⟨rfl,hms,hb2⟩;have st2:=st1.below hb2;have O2:=zbj O1 (Only.of_below (bs:=[]) hb2) (by intro b hb; cases hb);clear hw1 st st1 O O1 hb2 hms t0 t1 t2 t3 t4 t5 t6 t7 t8 t9 t10 f0 f1 f2 f3 f4 f5 f6 f7 f8 f9 f10;obtain ⟨⟨t0,t1,t2,t3,t4,t5,t6,t7,t8,t9,t10⟩,f0,f1,f2,f3,f4,f5,f6,f7,f8,f9,f10⟩:=zO st2.row (HAT.out ({ x with B:={ x.B with id:=K } }:BV));generalize hw3:w2.setCell ⟨g,j*11+1,none⟩ (.string (mtx (K+1)))=w3;have st3:BOs w3 base (some ⟨g,0,none⟩) n cap (pre++({ x with B:={ x.B with id:=K,name:=mtx (K+1) } }:BV)::post):=by rw [← hw3]; exact st2.cell (jj:=1) (by decide) (by have:=HJ.out; omega) rfl rfl (fun h=>⟨h.ports,h.f,h.v⟩)
   have O3:Only (allB (some ⟨g,0,none⟩) l) w w3:=by rw [← hw3]; exact zbj O2 (Only.set _ _ _ _) HG.out
   have ow:=st3.mid;obtain ⟨⟨t0,t1,t2,t3,t4,t5,t6,t7,t8,t9,t10⟩,f0,f1,f2,f3,f4,f5,f6,f7,f8,f9,f10⟩:=zO st3.row (HAT.out ({ x with B:={ x.B with id:=K,name:=mtx (K+1) } }:BV));(go_wp2_with fail);refine (zfy base x.a x.n x.c x.B.ports (K+1+1) _ ow.ports (by omega) (by omega) (by omega)).mono ?_;rintro e w4 ⟨rfl,o4,hg4⟩;have st4:BOs w4 base (some ⟨g,0,none⟩) n cap (pre++({ x with B:={ x.B with id:=K,name:=mtx (K+1),ports:=zaI (K+1+1) x.n } }:BV)::post):=st3.inner (Only.of_grown hg4) (fun b hb=>zaP.2 (.inl hb)) rfl rfl ⟨o4,zu ow.f ow.ports (by decide) hg4,⟨zu ow.v.rows ow.ports (by decide) hg4,zu ow.v.own ow.ports (by decide) hg4,ow.v.i64⟩⟩;have O4:=zbj O3 (Only.of_grown hg4) (fun b hb=>HIN.out b (zaP.2 (.inl hb)));clear hw3 st2 st3 O2 O3 o4 hg4 ow t0 t1 t2 t3 t4 t5 t6 t7 t8 t9 t10 f0 f1 f2 f3 f4 f5 f6 f7 f8 f9 f10;have ow:=st4.mid;obtain ⟨⟨t0,t1,t2,t3,t4,t5,t6,t7,t8,t9,t10⟩,f0,f1,f2,f3,f4,f5,f6,f7,f8,f9,f10⟩:=zO st4.row (HAT.out ({ x with B:={ x.B with id:=K,name:=mtx (K+1),ports:=zaI (K+1+1) x.n } }:BV));(go_wp2_with fail);refine (zed base x.fa x.fn x.fc x.B.f (K+1+1+8*x.n) _ ow.f (by omega) (by omega) (by omega)).mono ?_;rintro e w5 ⟨rfl,o5,hg5⟩;have st5:BOs w5 base (some ⟨g,0,none⟩) n cap (pre++({ x with B:={ x.B with id:=K,name:=mtx (K+1),ports:=zaI (K+1+1) x.n,f:=zaJ (K+1+1+8*x.n) x.fn } }:BV)::post):=st4.inner (Only.of_grown hg5) (fun b hb=>zaP.2 (.inr (.inl hb))) rfl rfl ⟨zu ow.ports ow.f (by decide) hg5,o5,⟨zu ow.v.rows ow.f (by decide) hg5,zu ow.v.own ow.f (by decide) hg5,ow.v.i64⟩⟩;have O5:=zbj O4 (Only.of_grown hg5) (fun b hb=>HIN.out b (zaP.2 (.inr (.inl hb))));clear st4 O4 o5 hg5 ow t0 t1 t2 t3 t4 t5 t6 t7 t8 t9 t10 f0 f1 f2 f3 f4 f5 f6 f7 f8 f9 f10;have ow:=st5.mid;obtain ⟨⟨t0,t1,t2,t3,t4,t5,t6,t7,t8,t9,t10⟩,f0,f1,f2,f3,f4,f5,f6,f7,f8,f9,f10⟩:=zO st5.row (HAT.out ({ x with B:={ x.B with id:=K,name:=mtx (K+1),ports:=zaI (K+1+1) x.n,f:=zaJ (K+1+1+8*x.n) x.fn } }:BV));(go_wp2_with fail);refine (zeg base x.ra x.rn x.rc x.B.v.rows (K+1+1+8*x.n+5*x.fn) _ ow.v.rows (by omega) (by omega) (by omega)).mono ?_;rintro e w6 ⟨rfl,o6,hg6⟩;have st6:BOs w6 base (some ⟨g,0,none⟩) n cap (pre++({ x with B:={ x.B with id:=K,name:=mtx (K+1),ports:=zaI (K+1+1) x.n,f:=zaJ (K+1+1+8*x.n) x.fn,v:=⟨zaS (K+1+1+8*x.n+5*x.fn) x.rn,x.B.v.own⟩ } }:BV)::post):=st5.inner (Only.of_grown hg6) (fun b hb=>zaP.2 (.inr (.inr (.inl hb)))) rfl rfl ⟨zu ow.ports ow.v.rows (by decide) hg6,zu ow.f ow.v.rows (by decide) hg6,⟨o6,zu ow.v.own ow.v.rows (by decide) hg6,ow.v.i64⟩⟩;have O6:=zbj O5 (Only.of_grown hg6) (fun b hb=>HIN.out b (zaP.2 (.inr (.inr (.inl hb)))));clear st5 O5 o6 hg6 ow t0 t1 t2 t3 t4 t5 t6 t7 t8 t9 t10 f0 f1 f2 f3 f4 f5 f6 f7 f8 f9 f10;have ow:=st6.mid;obtain ⟨⟨t0,t1,t2,t3,t4,t5,t6,t7,t8,t9,t10⟩,f0,f1,f2,f3,f4,f5,f6,f7,f8,f9,f10⟩:=zO st6.row (HAT.out ({ x with B:={ x.B with id:=K,name:=mtx (K+1),ports:=zaI (K+1+1) x.n,f:=zaJ (K+1+1+8*x.n) x.fn,v:=⟨zaS (K+1+1+8*x.n+5*x.fn) x.rn,x.B.v.own⟩ } }:BV));(go_wp2_with fail);refine (zha base x.oa x.on x.oc x.B.v.own (K+1+1+8*x.n+5*x.fn+3*x.rn) _ ow.v.own (by omega) (by omega) (by omega)).mono ?_;rintro e w7 ⟨rfl,o7,hg7⟩;have st7:BOs w7 base (some ⟨g,0,none⟩) n cap (pre++({ x with B:={ x.B with id:=K,name:=mtx (K+1),ports:=zaI (K+1+1) x.n,f:=zaJ (K+1+1+8*x.n) x.fn,v:=⟨zaS (K+1+1+8*x.n+5*x.fn) x.rn,zaK (K+1+1+8*x.n+5*x.fn+3*x.rn) x.on⟩ } }:BV)::post):=st6.inner (Only.of_grown hg7) (fun b hb=>zaP.2 (.inr (.inr (.inr hb)))) rfl rfl ⟨zu ow.ports ow.v.own (by decide) hg7,zu ow.f ow.v.own (by decide) hg7,⟨zu ow.v.rows ow.v.own (by decide) hg7,o7,zhj _ _ (by omega) (by omega) (by omega)⟩⟩;have O7:=zbj O6 (Only.of_grown hg7) (fun b hb=>HIN.out b (zaP.2 (.inr (.inr (.inr hb)))));clear st6 O6 o7 hg7 ow t0 t1 t2 t3 t4 t5 t6 t7 t8 t9 t10 f0 f1 f2 f3 f4 f5 f6 f7 f8 f9 f10;obtain ⟨EE,hEE⟩:∃EE,EE=endW K x:=⟨_,rfl⟩;have hEv:K+1+1+8*(x.n:Int)+5*(x.fn:Int)+3*(x.rn:Int)+(x.on:Int)=EE:=by rw [hEE]; rfl
   have e1:0 < EE∧EE≤16777216:=by omega
   obtain ⟨⟨t0,t1,t2,t3,t4,t5,t6,t7,t8,t9,t10⟩,f0,f1,f2,f3,f4,f5,f6,f7,f8,f9,f10⟩:=zO st7.row (HAT.out ({ x with B:={ x.B with id:=K,name:=mtx (K+1),ports:=zaI (K+1+1) x.n,f:=zaJ (K+1+1+8*x.n) x.fn,v:=⟨zaS (K+1+1+8*x.n+5*x.fn) x.rn,zaK (K+1+1+8*x.n+5*x.fn+3*x.rn) x.on⟩ } }:BV));have st8:=st7.cell (u:=.int .i64 EE) (x':=({ x with B:={ x.B with id:=K,name:=mtx (K+1),ports:=zaI (K+1+1) x.n,f:=zaJ (K+1+1+8*x.n) x.fn,v:=⟨zaS (K+1+1+8*x.n+5*x.fn) x.rn,zaK (K+1+1+8*x.n+5*x.fn+3*x.rn) x.on⟩,ticks:=EE } }:BV)) (jj:=6) (a:=j*11+6) (by decide) (by have:=HJ.out; omega) rfl rfl (fun h=>⟨h.ports,h.f,h.v⟩);have st9:=st8.cell (u:=.int .i64 (EE+1)) (x':=({ x with B:={ x.B with id:=K,name:=mtx (K+1),ports:=zaI (K+1+1) x.n,f:=zaJ (K+1+1+8*x.n) x.fn,v:=⟨zaS (K+1+1+8*x.n+5*x.fn) x.rn,zaK (K+1+1+8*x.n+5*x.fn+3*x.rn) x.on⟩,ticks:=EE,parse:=EE+1 } }:BV)) (jj:=7) (a:=j*11+7) (by decide) (by have:=HJ.out; omega) rfl rfl (fun h=>⟨h.ports,h.f,h.v⟩);have st10:=st9.cell (u:=.int .i64 (EE+1+1)) (x':=({ x with B:={ x.B with id:=K,name:=mtx (K+1),ports:=zaI (K+1+1) x.n,f:=zaJ (K+1+1+8*x.n) x.fn,v:=⟨zaS (K+1+1+8*x.n+5*x.fn) x.rn,zaK (K+1+1+8*x.n+5*x.fn+3*x.rn) x.on⟩,ticks:=EE,parse:=EE+1,word:=EE+1+1 } }:BV)) (jj:=8) (a:=j*11+8) (by decide) (by have:=HJ.out; omega) rfl rfl (fun h=>⟨h.ports,h.f,h.v⟩);have st11:=st10.cell (u:=.int .i64 (EE+1+1+1)) (x':=({ x with B:={ x.B with id:=K,name:=mtx (K+1),ports:=zaI (K+1+1) x.n,f:=zaJ (K+1+1+8*x.n) x.fn,v:=⟨zaS (K+1+1+8*x.n+5*x.fn) x.rn,zaK (K+1+1+8*x.n+5*x.fn+3*x.rn) x.on⟩,ticks:=EE,parse:=EE+1,word:=EE+1+1,drops:=EE+1+1+1 } }:BV)) (jj:=9) (a:=j*11+9) (by decide) (by have:=HJ.out; omega) rfl rfl (fun h=>⟨h.ports,h.f,h.v⟩);have st12:=st11.cell (u:=.int .i64 (EE+1+1+1+1)) (x':=({ x with B:={ x.B with id:=K,name:=mtx (K+1),ports:=zaI (K+1+1) x.n,f:=zaJ (K+1+1+8*x.n) x.fn,v:=⟨zaS (K+1+1+8*x.n+5*x.fn) x.rn,zaK (K+1+1+8*x.n+5*x.fn+3*x.rn) x.on⟩,ticks:=EE,parse:=EE+1,word:=EE+1+1,drops:=EE+1+1+1,vers:=EE+1+1+1+1 } }:BV)) (jj:=10) (a:=j*11+10) (by decide) (by have:=HJ.out; omega) rfl rfl (fun h=>⟨h.ports,h.f,h.v⟩);have HST:=hide st12;have HO:=hide (zbj (zbj (zbj (zbj (zbj O7 (Only.set _ g (j*11+6) (.int .i64 EE)) HG.out) (Only.set _ g (j*11+7) (.int .i64 (EE+1))) HG.out) (Only.set _ g (j*11+8) (.int .i64 (EE+1+1))) HG.out) (Only.set _ g (j*11+9) (.int .i64 (EE+1+1+1))) HG.out) (Only.set _ g (j*11+10) (.int .i64 (EE+1+1+1+1))) HG.out);have HXX:Hid (({ x with B:={ x.B with id:=K,name:=mtx (K+1),ports:=zaI (K+1+1) x.n,f:=zaJ (K+1+1+8*x.n) x.fn,v:=⟨zaS (K+1+1+8*x.n+5*x.fn) x.rn,zaK (K+1+1+8*x.n+5*x.fn+3*x.rn) x.on⟩,ticks:=EE,parse:=EE+1,word:=EE+1+1,drops:=EE+1+1+1,vers:=EE+1+1+1+1 } }:BV)=markV K x):=hide (by rw [hEE]; rfl);have HEV:Hid (endV K x=EE+1+1+1+1+1):=hide (by rw [hEE]; rfl);rw [hEv];clear st7 st8 st9 st10 st11 st12 O7 hEE;go_wp2
   go_roundw
   case rel=>exact ⟨j+1,by omega,by go_num,by rw [HE.out,HEV.out],by rw [HM.out,← HXX.out,List.append_assoc,HPO.out]; exact HST.out,HO.out⟩
   case measure=>simp [intOf]; omega
  ·have hj':j=n:=by omega
   subst hj';rw [List.drop_eq_nil_of_le (by omega),List.append_nil,List.take_of_length_le (by omega)] at st;rw [List.take_of_length_le (by omega)];have HO:=hide st;have HN:=hide O;clear st O h;go_wp2;go_ret;exact ⟨rfl,HO.out,HN.out⟩

theorem zgZ (ao:Option Addr) (n cap:Nat) (l:List BV) (K0:Int) (w:World) (h:GRow brF w ao n cap (zaX K0 l)) (hr:∀x∈zaX K0 l,x.Reads w) (hk0:0 < K0) (hT:endVs K0 l≤16777216) :
  Calls Tryz.prog 42 #[.slice ao n cap,.int .i64 K0] w fun e w'=>e=.returned (.int .i64 (endVs K0 l))∧Below w.heap.size w w':=by
 have hl:l.length=n:=by have:=h.size; rw [zdc] at this; exact this
 have hn:n≤16777216:=by have:=zfU l K0; omega
 go_enter Tryz.func42,Tryz.ntmps42;go_wp2
 go_loopw [1,5] (fun m i wr=>∃j:Nat,j≤n∧i=.int .i64 j∧m=.int .i64 (endVs K0 (l.take j))∧Below w.heap.size w wr) (fun _ i _=>n - (intOf i).toNat)
 case atStart=>exact ⟨0,Nat.zero_le _,rfl,rfl,Below.refl _ _⟩
 case round =>
  obtain ⟨j,hj,rfl,rfl,hb⟩:=hrel;by_cases hlt:j < n
  ·obtain ⟨x,hx⟩:∃x,l[j]?=some x:=⟨l[j]'(by omega),List.getElem?_eq_getElem (by omega)⟩;have htk:l.take (j+1)=l.take j++[x]:=by rw [List.take_add_one,hx]; rfl
   have hKb:=zhP hx K0;unfold endV endW at hKb;have HE:Hid (endVs K0 (l.take (j+1))=endV (endVs K0 (l.take j)) x):=hide (by rw [htk,zdq]);obtain ⟨z,b,off,hz,rfl,-⟩:=br_at (h.below hb) j hlt;have hzx:z=markV (endVs K0 (l.take j)) x:=by
    have e:l=l.take j++x::l.drop (j+1):=by
     obtain ⟨h,rfl⟩:=List.getElem?_eq_some_iff.1 hx;rw [← List.drop_eq_getElem_cons h,List.take_append_drop]
    have hc:=zjB (l.take j) x (l.drop (j+1)) K0;rw [← e,List.length_take,Nat.min_eq_left (by omega),hz] at hc;exact Option.some.inj hc
   have hrz:=hr z (List.mem_of_getElem? hz);subst hzx;have HS:Hid (∀W,Below wr.heap.size wr W→W.cell? ⟨b,off+j*11,none⟩=some (.int .i64 (markV (endVs K0 (l.take j)) x).B.id)∧W.cell? ⟨b,off+j*11+1,none⟩=some (.string (markV (endVs K0 (l.take j)) x).B.name)∧W.cell? ⟨b,off+j*11+2,none⟩=some (.slice (markV (endVs K0 (l.take j)) x).a (markV (endVs K0 (l.take j)) x).n (markV (endVs K0 (l.take j)) x).c)∧W.cell? ⟨b,off+j*11+3,none⟩=some (.slice (markV (endVs K0 (l.take j)) x).fa (markV (endVs K0 (l.take j)) x).fn (markV (endVs K0 (l.take j)) x).fc)∧W.cell? ⟨b,off+j*11+4,none⟩=some (.slice (markV (endVs K0 (l.take j)) x).ra (markV (endVs K0 (l.take j)) x).rn (markV (endVs K0 (l.take j)) x).rc)∧W.cell? ⟨b,off+j*11+5,none⟩=some (.slice (markV (endVs K0 (l.take j)) x).oa (markV (endVs K0 (l.take j)) x).on (markV (endVs K0 (l.take j)) x).oc)∧W.cell? ⟨b,off+j*11+6,none⟩=some (.int .i64 (markV (endVs K0 (l.take j)) x).B.ticks)∧W.cell? ⟨b,off+j*11+7,none⟩=some (.int .i64 (markV (endVs K0 (l.take j)) x).B.parse)∧W.cell? ⟨b,off+j*11+8,none⟩=some (.int .i64 (markV (endVs K0 (l.take j)) x).B.word)∧W.cell? ⟨b,off+j*11+9,none⟩=some (.int .i64 (markV (endVs K0 (l.take j)) x).B.drops)∧W.cell? ⟨b,off+j*11+10,none⟩=some (.int .i64 (markV (endVs K0 (l.take j)) x).B.vers)):=hide (fun W hW=>zP (h.below hb) hW hz);generalize hK:endVs K0 (l.take j)=KK at *;have i1:(0:Int)≤(j:Int):=by omega
   have i2:(j:Int) < (n:Int):=by omega
   have k1:0 < KK∧KK≤16777216:=by omega
   have k2:KK+1+1+8*(x.n:Int)+5*(x.fn:Int)+3*(x.rn:Int)+(x.on:Int)≤16777216:=by omega
   have HS:Hid (∀W,Below wr.heap.size wr W→W.cell? ⟨b,off+j*11,none⟩=some (.int .i64 KK)∧W.cell? ⟨b,off+j*11+1,none⟩=some (.string (mtx (KK+1)))∧W.cell? ⟨b,off+j*11+2,none⟩=some (.slice x.a x.n x.c)∧W.cell? ⟨b,off+j*11+3,none⟩=some (.slice x.fa x.fn x.fc)∧W.cell? ⟨b,off+j*11+4,none⟩=some (.slice x.ra x.rn x.rc)∧W.cell? ⟨b,off+j*11+5,none⟩=some (.slice x.oa x.on x.oc)∧W.cell? ⟨b,off+j*11+6,none⟩=some (.int .i64 (endW KK x))∧W.cell? ⟨b,off+j*11+7,none⟩=some (.int .i64 (endW KK x+1))∧W.cell? ⟨b,off+j*11+8,none⟩=some (.int .i64 (endW KK x+1+1))∧W.cell? ⟨b,off+j*11+9,none⟩=some (.int .i64 (endW KK x+1+1+1))∧W.cell? ⟨b,off+j*11+10,none⟩=some (.int .i64 (endW KK x+1+1+1+1))):=HS;have HB:=hide hb;clear hx htk hKb hz hb hK;obtain ⟨t0,-⟩:=HS.out _ (Below.refl _ wr);have vv:Below wr.heap.size wr wr.drew:=zq (Below.refl _ _);(go_wp2_with fail);refine wp_region_held_drew (S:=(fun W=>W.cell? ⟨b,off+j*11+1,none⟩=some (.string (mtx (KK+1))))) (by kernel_rfl) ((HS.out _ vv).2.1) (fun hHeld => ?_);refine kK 0 ⟨some 21,.move (.tmp 0),30,"exact.go:1239",#[],none⟩ ?_;refine kK 1 ⟨some 22,.move (.tmp 5),3,"exact.go:1239",#[],none⟩ ?_;refine kK 2 ⟨some 23,.indexAddr 30 (.tmp 21) (.tmp 22),0,"exact.go:1239",#[⟨0,.data⟩,⟨1,.data⟩],none⟩ ?_;refine kK 3 ⟨some 24,.fieldAddr 64 (.tmp 23) 1,0,"exact.go:1239",#[⟨2,.data⟩],none⟩ ?_;refine kK 4 ⟨some 25,.load 9 (.tmp 24),9,"exact.go:1239",#[⟨3,.data⟩],none⟩ ?_;refine kK 5 ⟨some 26,.move (.tmp 1),3,"exact.go:1239",#[],none⟩ ?_;refine kR 6 ⟨some 27,.call ⟨.value (.func 82),#[.tmp 26],#[3]⟩,9,"exact.go:1239",#[⟨5,.data⟩],none⟩ (fun K hK => ?_);go_simp;refine (zdA (KK+1) _ (by omega) (by omega)).mono ?_;rintro r wz ⟨rfl,hms,hbz⟩;clear hms;have vv:=zc vv hbz;(go_wp2_with fail);refine hK.out _ _ ((HS.out _ vv).2.1) (fun hHeld => ?_);clear hK K;(try simp only [Act.put,lA,lB,lC]);refine kK 7 ⟨some 28,.binOp .neq 9 (.tmp 25) (.tmp 27) 9,4,"exact.go:1239",#[⟨4,.data⟩,⟨6,.data⟩],none⟩ ?_;refine wpAnyH_done (by kernel_rfl) ?_ _;clear hHeld t0;obtain ⟨-,-,t2,t3,t4,t5,-⟩:=HS.out _ vv;have hrw:=hrz.below (zc HB.out vv);(go_wp2_with fail);refine (zg0 x.a x.n x.c (KK+1+1) _ hrw.ports (by omega) (by omega) (by omega)).mono ?_;rintro e w3 ⟨rfl,hb3⟩;have vv:=zc vv hb3;clear t2 t3 t4 t5 hrw hb3;obtain ⟨-,-,t2,t3,t4,t5,-⟩:=HS.out _ vv;have hrw:=hrz.below (zc HB.out vv);have j1:¬(KK+1+1+8*(x.n:Int) < 0):=by omega
   (go_wp2_with fail);refine (zfj x.fa x.fn x.fc (KK+1+1+8*x.n) _ hrw.f (by omega) (by omega) (by omega)).mono ?_;rintro e w4 ⟨rfl,hb4⟩;have vv:=zc vv hb4;clear t2 t3 t4 t5 hrw hb4 j1;obtain ⟨-,-,t2,t3,t4,t5,-⟩:=HS.out _ vv;have hrw:=hrz.below (zc HB.out vv);have j1:¬(KK+1+1+8*(x.n:Int)+5*(x.fn:Int) < 0):=by omega
   (go_wp2_with fail);refine (zfl x.ra x.rn x.rc (KK+1+1+8*x.n+5*x.fn) _ hrw.v.rows (by omega) (by omega) (by omega)).mono ?_;rintro e w5 ⟨rfl,hb5⟩;have vv:=zc vv hb5;clear t2 t3 t4 t5 hrw hb5 j1;obtain ⟨-,-,t2,t3,t4,t5,-⟩:=HS.out _ vv;have hrw:=hrz.below (zc HB.out vv);have j1:¬(KK+1+1+8*(x.n:Int)+5*(x.fn:Int)+3*(x.rn:Int) < 0):=by omega
   (go_wp2_with fail);refine (zjm x.oa x.on x.oc (KK+1+1+8*x.n+5*x.fn+3*x.rn) _ hrw.v.own (by omega) (by omega) (by omega)).mono ?_;rintro e w6 ⟨rfl,e6⟩;obtain rfl:=e6.symm;clear t2 t3 t4 t5 hrw j1;obtain ⟨-,-,-,-,-,-,t6,t7,t8,t9,t10⟩:=HS.out _ vv;have HEV:Hid (endV KK x=endW KK x+1+1+1+1+1):=hide rfl;have hEv:KK+1+1+8*(x.n:Int)+5*(x.fn:Int)+3*(x.rn:Int)+(x.on:Int)=endW KK x:=rfl;rw [hEv];have e1:0 < endW KK x∧endW KK x≤16777216:=by omega
   have HV:=hide (zc HB.out vv);clear hEv vv;generalize hEE:endW KK x=EE at *;have j1:¬(EE < 0):=by omega
   go_wp2
   go_roundw
   case rel=>exact ⟨j+1,by omega,by go_num,by rw [HE.out,HEV.out],HV.out⟩
   case measure=>simp [intOf]; omega
  ·have hj':j=n:=by omega
   subst hj';rw [List.take_of_length_le (by omega)];go_wp2;go_ret;exact ⟨rfl,hb⟩

theorem zec (k:Int) (c:Nat) (w:World) :
  Calls Tryz.prog 39 #[.slice none 0 c,.int .i64 k] w fun r w'=>r=.returned (.int .i64 k)∧w'=w:=by
 go_enter Tryz.func39,Tryz.ntmps39;go_wp2
 go_loop [1,5] (fun m i=>m=.int .i64 k∧i=.int .i64 0) (fun _ _=>0)
 case atStart=>exact ⟨rfl,rfl⟩
 case round =>
  obtain ⟨rfl,rfl⟩:=hrel;go_wp2;go_ret;exact ⟨rfl,rfl⟩

theorem ziS {w:World} {base X:Nat} {ao:Option Addr} {n cap:Nat} {l:List BV} {cs:Array Value} {T:TypeId} (h:BOs w base ao n cap l) (hX:w.heap[X]?=some (.cells cs T)) (h0:(64:Nat)≠T) (h1:(103:Nat)≠T) (h2:(149:Nat)≠T) (h3:(184:Nat)≠T) (h4:(3:Nat)≠T):X∉allB ao l:=by
 intro hm;rcases List.mem_append.1 hm with hm | hm
 ·exact zz h.row hX h0 X (zS.2 hm) rfl
 ·obtain ⟨x,hx,hb⟩:=List.mem_flatMap.1 hm;have o:=h.item x hx;rcases zaP.1 hb with hb | hb | hb | hb
  ·exact zz o.ports hX h1 X (zS.2 hb) rfl
  ·exact zz o.f hX h2 X (zS.2 hb) rfl
  ·exact zz o.v.rows hX h3 X (zS.2 hb) rfl
  ·exact zz o.v.own hX h4 X (zS.2 hb) rfl

end Go.Proofs.YtpaneiaflfegoaaGreat
