/-
  Packed: BrLess RepFlat FdbEnt DrawVec DrawPt DrawStr DrawPt2 BrRg OkRg SetMath SameStr.
-/
import Derived.Test.YtkcoehmpnkdinaaGreatPNK03
namespace Go.Proofs.YtkcoehmpnkdinaaGreat
set_option maxRecDepth 100000
set_option maxHeartbeats 16000000
open Go.RowKit

def lessB (V B:BR):Prop:=V.ports.length≤B.ports.length∧V.f.length≤B.f.length∧V.v=B.v

theorem zhP (B:BR):lessB (turned B) B:=⟨Nat.le_refl _,(zcl _ _ _).length_le,rfl⟩

theorem zfx {a b c:BR} (h:lessB a b) (k:lessB b c):lessB a c:=⟨Nat.le_trans h.1 k.1,Nat.le_trans h.2.1 k.2.1,h.2.2.trans k.2.2⟩

theorem zjB (B:BR) (port:Int) (up:Bool):lessB (linkB B port up) B:=by
 unfold linkB
 split
 ·split
  ·exact zfx (zhP _) ⟨by simp,Nat.le_refl _,rfl⟩
  ·exact ⟨Nat.le_refl _,Nat.le_refl _,rfl⟩
 ·exact ⟨Nat.le_refl _,Nat.le_refl _,rfl⟩

section
open Go.RowKit

variable {α:Type}

def repTo (x z:α) (p k:Nat):List α:=List.replicate k x++List.replicate (p - k) z

theorem zih (F:Flat α) {P:Program} {tS T:TypeId} (hu:P.underlying tS=some (.slice T)) (hsz:(P.info? T).map (·.size)=some F.k) {x z:α} {w:World} {base g p k m:Nat} (h:w.ownsRow base T F.k (.slice (some ⟨g,0,none⟩) p p) p (F.all (repTo x z p k))) (hk:k+m≤p) {a:Addr} {dl sl:Nat} (hmin:Nat.min sl dl=m) (hsrc:∀j v,(F.all (List.replicate m x))[j]? = some v→w.cell? (a.add j)=some v) :
  ∃w',(∀ty dc sc,(Builtin.copy_ #[tS,tS] ty #[.slice (some ⟨g,k*F.k,none⟩) dl dc,.slice (some a) sl sc]).run P w=.ok (goInt m) w')∧w'.ownsRow base T F.k (.slice (some ⟨g,0,none⟩) p p) p (F.all (repTo x z p (k+m)))∧w.grownBy w' (some g):=by
 obtain ⟨hlen,⟨hv,h0⟩ | ⟨g',cap',cur,hv,hg,hh,h1,h2,h3,h4⟩⟩:=h
 ·cases hv
 ·cases hv;have hcl:(F.all (List.replicate m x)).length=m*F.k:=by rw [F.all_length,List.length_replicate]
  have hcl0:(F.all (List.replicate k x)).length=k*F.k:=by rw [F.all_length,List.length_replicate]
  have hle:k*F.k+m*F.k≤p*F.k:=by rw [← Nat.add_mul]; exact Nat.mul_le_mul_right _ hk
  have hfit:k*F.k+(F.all (List.replicate m x)).length≤cur.size:=by rw [hcl,h3]; exact hle
  have hcur:cur.toList=F.all (List.replicate k x)++(F.all (List.replicate m z)++F.all (List.replicate (p - (k+m)) z)):=by
   have e:cur.toList=F.all (repTo x z p k):=by rw [← h4,List.take_of_length_le (by simp [h3])]
   rw [e];unfold repTo;rw [F.all_append,← F.all_append (List.replicate m z),List.replicate_append_replicate,show m+(p - (k+m))=p - k by omega]
  have hclz:(F.all (List.replicate m z)).length=m*F.k:=by rw [F.all_length,List.length_replicate]
  have hnew:cur.toList.take (k*F.k)++F.all (List.replicate m x)++cur.toList.drop (k*F.k+(F.all (List.replicate m x)).length)=F.all (repTo x z p (k+m)):=by
   rw [hcl,hcur,List.take_append_of_le_length (by omega),List.take_of_length_le (by omega)];rw [← List.append_assoc,List.drop_append,List.drop_eq_nil_of_le (by rw [List.length_append,hcl0,hclz]; omega),List.nil_append,List.length_append,hcl0,hclz,Nat.sub_self,List.drop_zero];unfold repTo;rw [← List.replicate_append_replicate,F.all_append,F.all_append]
  refine ⟨w.setRow g (cur.toList.take (k*F.k)++F.all (List.replicate m x)++cur.toList.drop (k*F.k+(F.all (List.replicate m x)).length)).toArray,fun ty dc sc => ?_,⟨?_,.inr ⟨g,p,_,rfl,hg,setRow_heap w g cur _ T _ hh,Nat.le_refl _,h2, ?_, ?_⟩⟩, ?_⟩
  ·have:=zdM (P:=P) w tS tS ty T g (k*F.k) dl dc a sl sc cur T (F.all (List.replicate m x)) F.k hu hsz hh (by rw [hcl,hmin]) hsrc hfit (F.all_oneCell _)
   rw [hmin] at this;exact this
  ·rw [F.all_length];unfold repTo
   simp
   rw [show k+m+(p - (k+m))=p by omega]
  ·rw [hnew];simp only [List.size_toArray];rw [F.all_length];unfold repTo
   simp
   rw [show k+m+(p - (k+m))=p by omega]
  ·rw [hnew]
   simp only
   rw [List.take_of_length_le];rw [F.all_length];unfold repTo
   simp
   exact Nat.mul_le_mul_right _ (by omega)
  ·refine ⟨rfl,rfl,rfl, ?_, ?_⟩
   ·simp [World.setRow]
   ·intro i hi hkg;rw [setRow_other _ _ _ _ (fun e=>hkg (by rw [e]))]

end

theorem zhi {e:FE} (h:entOk e=true):e.Rng:=by
 rw [zgt] at h;exact ⟨by omega,by omega,by omega,by omega⟩

def zi8 (w w':World) (C:Nat) (a0:Option Addr) (l0 c0:Nat) (z0:List Int) (e:Ending):Prop :=
 ∃(R K H B P:Int),e=.returned (.agg #[.int .i64 R,.int .i64 K,.int .i64 H,.int .i64 B,.int .i64 P])∧Went w w' C a0 l0 c0 z0

theorem zgH (C:Nat) (a0:Option Addr) (l0 c0:Nat) (z0:List Int) (w:World) (hc:Cur w C a0 l0 c0 z0) :
  Calls Tryz.prog 83 #[.pointer (some ⟨C,0,none⟩)] w fun e w'=>∃(R K H B P:Int),e=.returned (.agg #[.int .i64 R,.int .i64 K,.int .i64 H,.int .i64 B,.int .i64 P])∧okVc R K H B P=true∧Went w w' C a0 l0 c0 z0:=by
 have hlt:=hc.lt;have q0:=zg w (.cells #[.int .i64 0,.int .i64 0,.int .i64 0,.int .i64 0,.int .i64 0] 72);have wn0:=Went.start hc q0;have hk0:=zt w (.cells #[.int .i64 0,.int .i64 0,.int .i64 0,.int .i64 0,.int .i64 0] 72);go_enter Tryz.func83,Tryz.ntmps83;go_wp2_with fail
 refine (zy C a0 l0 c0 z0 5 _ wn0.cur (by omega)).mono ?_;rintro e w1 ⟨r1,rfl,hx1,hy1,-,went1⟩;have hy1:=hy1 (by omega);have wn1:=wn0.trans went1;have k1:=ze hk0 went1.grown (fun j hj=>by cases hj; omega);clear wn0 went1 hk0;go_wp2_with fail
 refine (zan C a0 l0 c0 z0 [0,1,2,5,10,100] _ _ w1 wn1.cur rfl rfl (by simp) (by simp)).mono ?_;rintro e w2 ⟨K,hK,rfl,went2⟩;have HK:Hid (0≤K∧K≤100):=hide (by simp at hK; omega);clear hK;have wn2:=wn1.trans went2;have k2:=ze k1 went2.grown (fun j hj=>by cases hj; omega);clear wn1 went2 k1;go_wp2_with fail
 refine (zan C a0 l0 c0 z0 [0,1,2,9,10] _ _ w2 wn2.cur rfl rfl (by simp) (by simp)).mono ?_;rintro e w3 ⟨H,hH,rfl,went3⟩;have HH:Hid (0≤H∧H≤10):=hide (by simp at hH; omega);clear hH;have wn3:=wn2.trans went3;have k3:=ze k2 went3.grown (fun j hj=>by cases hj; omega);clear wn2 went3 k2;go_wp2_with fail
 refine (zy C a0 l0 c0 z0 5 _ wn3.cur (by omega)).mono ?_;rintro e w4 ⟨r4,rfl,hx4,hy4,-,went4⟩;have hy4:=hy4 (by omega);have wn4:=wn3.trans went4;have k4:=ze k3 went4.grown (fun j hj=>by cases hj; omega);clear wn3 went4 k3;go_wp2_with fail
 refine (zy C a0 l0 c0 z0 4 _ wn4.cur (by omega)).mono ?_;rintro e w5 ⟨r5,rfl,hx5,hy5,-,went5⟩;have hy5:=hy5 (by omega);have HOK:Hid (okVc (1+r1) K H (1+r4) r5=true):=hide (by have h1:=HK.out; have h2:=HH.out; unfold okVc; simp; omega);have wn5:=wn4.trans went5;have k5:=ze k4 went5.grown (fun j hj=>by cases hj; omega);obtain ⟨⟨x0,x1,x2,x3,x4⟩,f0,f1,f2,f3,f4⟩:=zx k5;clear wn4 went5 k4 k5;go_wp2;exact bodyPost_ret (v:=.agg #[.int .i64 (1+r1),.int .i64 K,.int .i64 H,.int .i64 (1+r4),.int .i64 r5]) (by simp [results,Tryz.results83,go_sem, *]) rfl ⟨_,_,_,_,_,rfl,HOK.out,wn5.madeAt (zR (Below.refl _ _) (Nat.le_refl w.heap.size) _ _ _ _ _) hlt (Nat.le_refl _)⟩

theorem ziM (C:Nat) (a0:Option Addr) (l0 c0:Nat) (z0:List Int) (w:World) (hc:Cur w C a0 l0 c0 z0) :
  Calls Tryz.prog 83 #[.pointer (some ⟨C,0,none⟩)] w fun e w'=>zi8 w w' C a0 l0 c0 z0 e :=
 (zgH C a0 l0 c0 z0 w hc).mono (fun _ _ ⟨R,K,H,B,P,he,_,hw⟩=>⟨R,K,H,B,P,he,hw⟩)

theorem zgG (C:Nat) (a0:Option Addr) (l0 c0:Nat) (z0:List Int) (w:World) (hc:Cur w C a0 l0 c0 z0) :
  Calls Tryz.prog 52 #[.pointer (some ⟨C,0,none⟩)] w fun e w'=>zi8 w w' C a0 l0 c0 z0 e:=by
 have hlt:=hc.lt;have hst:=Went.start hc (zg w (.cells #[.int .i64 0,.int .i64 0,.int .i64 0,.int .i64 0,.int .i64 0] 72));go_enter Tryz.func52,Tryz.ntmps52;go_wp2_with fail
 refine (ziM C a0 l0 c0 z0 _ hst.cur).mono ?_;rintro e w1 ⟨R,K,H,B,P,rfl,went1⟩;have kz:=ze (zt w (.cells #[.int .i64 0,.int .i64 0,.int .i64 0,.int .i64 0,.int .i64 0] 72)) went1.grown (fun k hk=>by cases hk; omega);have wn1:=hst.trans went1;have m1:w.heap.size+1≤w1.heap.size:=by have:=went1.grown.size; simpa using this
 have kz:=za kz (zg w1 (.cells #[.int .i64 R,.int .i64 K,.int .i64 H,.int .i64 B,.int .i64 P] 72));have kv:=zt w1 (.cells #[.int .i64 R,.int .i64 K,.int .i64 H,.int .i64 B,.int .i64 P] 72);have wn1:=wn1.made (zg w1 (.cells #[.int .i64 R,.int .i64 K,.int .i64 H,.int .i64 B,.int .i64 P] 72));have m1':w1.heap.size+1≤(w1.alloc (.cells #[.int .i64 R,.int .i64 K,.int .i64 H,.int .i64 B,.int .i64 P] 72)).heap.size:=by simp
 clear hst went1;go_wp2_with fail
 generalize w1.alloc (.cells #[.int .i64 R,.int .i64 K,.int .i64 H,.int .i64 B,.int .i64 P] 72)=w1' at *;refine (zy C a0 l0 c0 z0 12 _ wn1.cur (by omega)).mono ?_;rintro e w2 ⟨x,rfl,hx0,-,-,went2⟩;have kz:=ze kz went2.grown (fun k hk=>by cases hk; omega);have kv:=ze kv went2.grown (fun k hk=>by cases hk; omega);have wn2:=wn1.trans went2;have m2:w1.heap.size+1≤w2.heap.size:=Nat.le_trans m1' went2.grown.size;clear went2 wn1 m1';have ne1:¬w1.heap.size=w.heap.size:=by omega
 have ne2:¬w.heap.size=w1.heap.size:=by omega
 by_cases e0:x=0
 ·subst e0;(go_wp2_with fail);refine (zan C a0 l0 c0 z0 [0,99,100] _ _ w2 wn2.cur rfl rfl (by simp) (by simp)).mono ?_;rintro e w3 ⟨y,-,rfl,went3⟩;obtain ⟨⟨x0,x1,x2,x3,x4⟩,f0,f1,f2,f3,f4⟩:=zx (ze kv went3.grown (fun k hk=>by cases hk; omega));obtain ⟨⟨y0,y1,y2,y3,y4⟩,g0,g1,g2,g3,g4⟩:=zx (ze kz went3.grown (fun k hk=>by cases hk; omega));have wn3:=wn2.trans went3;clear went3 wn2 kz kv;go_wp2;exact bodyPost_ret (v:=.agg #[.int .i64 y,.int .i64 K,.int .i64 H,.int .i64 B,.int .i64 P]) (by simp [results,Tryz.results52,go_sem, *]) rfl ⟨y,K,H,B,P,rfl,wn3.madeAt (zR (zj (Below.refl _ _) (g:=w1.heap.size) (by omega) 0 (.int .i64 y)) (Nat.le_refl w.heap.size) _ _ _ _ _) hlt (Nat.le_refl _)⟩
 have t0:(x == 0)=false:=by simp [e0]
 by_cases e1:x=1
 ·subst e1;(go_wp2_with fail);refine (zan C a0 l0 c0 z0 [-1,99999,100000,100001] _ _ w2 wn2.cur rfl rfl (by simp) (by simp)).mono ?_;rintro e w3 ⟨y,-,rfl,went3⟩;obtain ⟨⟨x0,x1,x2,x3,x4⟩,f0,f1,f2,f3,f4⟩:=zx (ze kv went3.grown (fun k hk=>by cases hk; omega));obtain ⟨⟨y0,y1,y2,y3,y4⟩,g0,g1,g2,g3,g4⟩:=zx (ze kz went3.grown (fun k hk=>by cases hk; omega));have wn3:=wn2.trans went3;clear went3 wn2 kz kv;go_wp2;exact bodyPost_ret (v:=.agg #[.int .i64 R,.int .i64 y,.int .i64 H,.int .i64 B,.int .i64 P]) (by simp [results,Tryz.results52,go_sem, *]) rfl ⟨R,y,H,B,P,rfl,wn3.madeAt (zR (zj (Below.refl _ _) (g:=w1.heap.size) (by omega) 1 (.int .i64 y)) (Nat.le_refl w.heap.size) _ _ _ _ _) hlt (Nat.le_refl _)⟩
 have t1:(x == 1)=false:=by simp [e1]
 by_cases e2:x=2
 ·subst e2;(go_wp2_with fail);refine (zan C a0 l0 c0 z0 [-1,11] _ _ w2 wn2.cur rfl rfl (by simp) (by simp)).mono ?_;rintro e w3 ⟨y,-,rfl,went3⟩;obtain ⟨⟨x0,x1,x2,x3,x4⟩,f0,f1,f2,f3,f4⟩:=zx (ze kv went3.grown (fun k hk=>by cases hk; omega));obtain ⟨⟨y0,y1,y2,y3,y4⟩,g0,g1,g2,g3,g4⟩:=zx (ze kz went3.grown (fun k hk=>by cases hk; omega));have wn3:=wn2.trans went3;clear went3 wn2 kz kv;go_wp2;exact bodyPost_ret (v:=.agg #[.int .i64 R,.int .i64 K,.int .i64 y,.int .i64 B,.int .i64 P]) (by simp [results,Tryz.results52,go_sem, *]) rfl ⟨R,K,y,B,P,rfl,wn3.madeAt (zR (zj (Below.refl _ _) (g:=w1.heap.size) (by omega) 2 (.int .i64 y)) (Nat.le_refl w.heap.size) _ _ _ _ _) hlt (Nat.le_refl _)⟩
 have t2:(x == 2)=false:=by simp [e2]
 by_cases e3:x=3
 ·subst e3;(go_wp2_with fail);refine (zan C a0 l0 c0 z0 [-1,7,8] _ _ w2 wn2.cur rfl rfl (by simp) (by simp)).mono ?_;rintro e w3 ⟨y,-,rfl,went3⟩;obtain ⟨⟨x0,x1,x2,x3,x4⟩,f0,f1,f2,f3,f4⟩:=zx (ze kv went3.grown (fun k hk=>by cases hk; omega));obtain ⟨⟨y0,y1,y2,y3,y4⟩,g0,g1,g2,g3,g4⟩:=zx (ze kz went3.grown (fun k hk=>by cases hk; omega));have wn3:=wn2.trans went3;clear went3 wn2 kz kv;go_wp2;exact bodyPost_ret (v:=.agg #[.int .i64 R,.int .i64 K,.int .i64 H,.int .i64 B,.int .i64 y]) (by simp [results,Tryz.results52,go_sem, *]) rfl ⟨R,K,H,B,y,rfl,wn3.madeAt (zR (zj (Below.refl _ _) (g:=w1.heap.size) (by omega) 4 (.int .i64 y)) (Nat.le_refl w.heap.size) _ _ _ _ _) hlt (Nat.le_refl _)⟩
 have t3:(x == 3)=false:=by simp [e3]
 obtain ⟨⟨x0,x1,x2,x3,x4⟩,f0,f1,f2,f3,f4⟩:=zx kv;obtain ⟨⟨y0,y1,y2,y3,y4⟩,g0,g1,g2,g3,g4⟩:=zx kz;clear kz kv;go_wp2;exact bodyPost_ret (v:=.agg #[.int .i64 R,.int .i64 K,.int .i64 H,.int .i64 B,.int .i64 P]) (by simp [results,Tryz.results52,go_sem, *]) rfl ⟨R,K,H,B,P,rfl,wn2.madeAt (zR (Below.refl _ _) (Nat.le_refl w.heap.size) _ _ _ _ _) hlt (Nat.le_refl _)⟩

theorem zeO (C:Nat) (a0:Option Addr) (l0 c0:Nat) (z0:List Int) (N:Int) (m:Nat) (w:World) (hc:Cur w C a0 l0 c0 z0) (hN:N=m) (hm:m≤1000) :
  Calls Tryz.prog 114 #[.pointer (some ⟨C,0,none⟩),.int .i64 N] w fun e w'=>∃(ao:Option Addr) (cap:Nat) (l:List PT),e=.returned (.slice ao m cap)∧l.length=m∧(∀x∈l,ptOk x=true)∧w'.ownsRow w.heap.size 79 8 (.slice ao m cap) m (ptF.all l)∧Went w w' C a0 l0 c0 z0:=by
 subst hN;have hlt:=hc.lt;go_enter Tryz.func114,Tryz.ntmps114;go_wp2_with fail
 generalize hw1:w.alloc (Obj.cells #[] 79)=w1;have b1:=zb hw1;have o1:w1.ownsRow w.heap.size 79 8 (.slice (some ⟨w.heap.size,0,none⟩) 0 0) 0 (ptF.all []):=zaE ptF w w1 79 w.heap.size (zk hw1) (Nat.le_refl _);have wn1:=Went.start hc b1;clear hw1 b1
 go_loopw [5,6] (fun o i wr=>∃(k:Nat) (ao:Option Addr) (cap:Nat) (l:List PT),k≤m∧i=.int .i64 k∧o=.slice ao k cap∧l.length=k∧(∀x∈l,ptOk x=true)∧wr.ownsRow w.heap.size 79 8 (.slice ao k cap) k (ptF.all l)∧Went w wr C a0 l0 c0 z0) (fun _ i _=>m - (intOf i).toNat)
 case atStart=>exact ⟨0,_,_,[],Nat.zero_le _,rfl,rfl,rfl,(by intro x hx; cases hx),o1,wn1⟩
 case round =>
  obtain ⟨k,ao,cap,l,hk,rfl,rfl,hl,hall,o2,wn2⟩:=hrel;have HA:=hide hall;clear hall;clear wn1 o1;have HL:=hide hl;clear hl;by_cases hk0:k < m
  ·(go_wp2_with fail);refine (zdK C a0 l0 c0 z0 4 _ wn2.cur (by omega)).mono ?_;rintro e w3 ⟨q,rfl,wt⟩;have wn3:=wn2.trans wt;have o3:=zw o2 wt.grown (fun b hb=>by cases hb; exact hlt);clear wt wn2 o2;(go_wp2_with fail);refine (zan C a0 l0 c0 z0 [1,1,2,5,10] _ _ w3 wn3.cur rfl rfl (by simp) (by simp)).mono ?_;rintro e w4 ⟨K,hK,rfl,wt⟩;have HK:Hid ((decide (1≤K) && decide (K≤1000))=true):=hide (by simp at hK; simp; omega);clear hK;have wn4:=wn3.trans wt;have o4:=zw o3 wt.grown (fun b hb=>by cases hb; exact hlt);clear wt wn3 o3;have ob:=hide (zkN o4);have hX:w.heap.size≤w4.heap.size:=wn4.grown.size;have HX:=hide hX;have hCX:C≠w4.heap.size:=by omega
   have HCX:=hide hCX;clear hX hCX;cases q
   ·(go_upto_region 6 with fail);generalize hw5:w4.alloc (.cells #[.bool true,.int .i64 K,.bool false,.int .i64 0,.int .i64 0,.int .i64 0,.int .i64 0,.int .i64 0] 79)=w5;have b5:=zb hw5;have kX:=zk hw5;have o5:=zl o4 b5;have wn5:=wn4.made b5;obtain ⟨d0,d1,d2,d3,d4,d5,d6,d7⟩:=zcJ kX;clear o4 wn4 b5;(go_wp2_with fail);refine (zdK C a0 l0 c0 z0 4 _ wn5.cur (by omega)).mono ?_;rintro e w6 ⟨r,rfl,wt⟩;have wn6:=wn5.trans wt;have o6:=zw o5 wt.grown (fun b hb=>by cases hb; exact hlt);have kX:=ze kX wt.grown (fun i e=>by cases e; exact HCX.out);clear wt wn5 o5 hw5 d0 d1 d2 d3 d4 d5 d6 d7;cases r
    ·obtain ⟨d0,d1,d2,d3,d4,d5,d6,d7⟩:=zcJ kX;have f2:=zi kX 2;generalize hw7:w6.setCell ⟨w4.heap.size,2,none⟩ (.bool true)=w7;have kY:w7.heap[w4.heap.size]? = some (.cells #[.bool true,.int .i64 K,.bool true,.int .i64 0,.int .i64 0,.int .i64 0,.int .i64 0,.int .i64 0] 79):=by rw [← hw7]; exact zi0 kX _
     have o7:=zB o6 (zm (rb:=w4.heap.size) 2 (.bool true)) (fun b hb=>Nat.ne_of_lt (ob.out b hb));rw [hw7] at o7;have wn7:=wn6.madeAt (zj (Below.refl w.heap.size w6) (g:=w4.heap.size) HX.out 2 (.bool true)) hlt (Nat.le_refl _);rw [hw7] at wn7;clear wn6 o6 kX;(go_wp2_with fail);refine (zgH C a0 l0 c0 z0 _ wn7.cur).mono ?_;rintro e w8 ⟨vr,vc,vh,vb,vp,rfl,hok,wt⟩;have HV:=hide hok;clear hok;have wn8:=wn7.trans wt;have o8:=zw o7 wt.grown (fun b hb=>by cases hb; exact hlt);have kX:=ze kY wt.grown (fun i e=>by cases e; exact HCX.out);clear wt wn7 o7 hw7 kY d0 d1 d2 d3 d4 d5 d6 d7 f2;obtain ⟨d0,d1,d2,d3,d4,d5,d6,d7⟩:=zcJ kX;have f3:=zi kX 3;have f4:=zi kX 4;have f5:=zi kX 5;have f6:=zi kX 6;have f7:=zi kX 7;generalize hw9:((((w8.setCell ⟨w4.heap.size,3,none⟩ (.int .i64 vr)).setCell ⟨w4.heap.size,4,none⟩ (.int .i64 vc)).setCell ⟨w4.heap.size,5,none⟩ (.int .i64 vh)).setCell ⟨w4.heap.size,6,none⟩ (.int .i64 vb)).setCell ⟨w4.heap.size,7,none⟩ (.int .i64 vp)=w9;have kY:w9.heap[w4.heap.size]? = some (.cells #[.bool true,.int .i64 K,.bool true,.int .i64 vr,.int .i64 vc,.int .i64 vh,.int .i64 vb,.int .i64 vp] 79):=by rw [← hw9]; exact zjZ kX _ _ _ _ _
     have hne:∀b,(Value.slice ao k cap).ownBlock=some b→b≠w4.heap.size:=fun b hb=>Nat.ne_of_lt (ob.out b hb)
     have o9':=zB (zB (zB (zB (zB o8 (zm (rb:=w4.heap.size) 3 (.int .i64 vr)) hne) (zm (rb:=w4.heap.size) 4 (.int .i64 vc)) hne) (zm (rb:=w4.heap.size) 5 (.int .i64 vh)) hne) (zm (rb:=w4.heap.size) 6 (.int .i64 vb)) hne) (zm (rb:=w4.heap.size) 7 (.int .i64 vp)) hne;rw [hw9] at o9';have wn9:=wn8.madeAt (zj (zj (zj (zj (zj (Below.refl w.heap.size w8) (g:=w4.heap.size) HX.out 3 (.int .i64 vr)) HX.out 4 (.int .i64 vc)) HX.out 5 (.int .i64 vh)) HX.out 6 (.int .i64 vb)) HX.out 7 (.int .i64 vp)) hlt (Nat.le_refl _);rw [hw9] at wn9;clear wn8 o8 kX hne;(go_upto_region 9 with fail);clear d0 d1 d2 d3 d4 d5 d6 d7 f3 f4 f5 f6 f7 hw9;have HCS:Hid (#[Value.bool true,.int .i64 K,.bool true,.int .i64 vr,.int .i64 vc,.int .i64 vh,.int .i64 vb,.int .i64 vp].toList=ptF.cs ⟨true,K,true,⟨vr,vc,vh,vb,vp⟩⟩):=hide rfl;obtain ⟨d0,d1,d2,d3,d4,d5,d6,d7⟩:=zcJ kY;have o9:=zl o9' (zg w9 (.cells #[.bool true,.int .i64 K,.bool true,.int .i64 vr,.int .i64 vc,.int .i64 vh,.int .i64 vb,.int .i64 vp] 79));have hbase9:w.heap.size≤(w9.alloc (.cells #[.bool true,.int .i64 K,.bool true,.int .i64 vr,.int .i64 vc,.int .i64 vh,.int .i64 vb,.int .i64 vp] 79)).heap.size:=by have:=wn9.grown.size; simp; omega
     have HW9:Hid (Went w (w9.alloc (.cells #[.bool true,.int .i64 K,.bool true,.int .i64 vr,.int .i64 vc,.int .i64 vh,.int .i64 vb,.int .i64 vp] 79)) C a0 l0 c0 z0):=hide (wn9.made (zg w9 _));go_wp2_with (at_builtin; refine zci _ rfl _ _ rfl w.heap.size _ k l rfl o9 _ 1 1 [⟨true,K,true,⟨vr,vc,vh,vb,vp⟩⟩] rfl (zax ptF _ _ _ _ HCS.out) (by omega) hbase9 ?_)
     rintro ao' cap' wz oz - gz bz;have HO:=hide oz;have HWZ:=hide (HW9.out.madeAt bz hlt (Nat.le_refl _));have HLN:Hid ((l++[(⟨true,K,true,⟨vr,vc,vh,vb,vp⟩⟩:PT)]).length=k+1):=hide (by simp [HL.out]);have HAN:Hid (∀y∈l++[(⟨true,K,true,⟨vr,vc,vh,vb,vp⟩⟩:PT)],ptOk y=true):=hide (by
      intro y hy;rcases List.mem_append.1 hy with hy | hy
      ·exact HA.out y hy
      ·have e:y=_:=List.mem_singleton.1 hy;subst e;unfold ptOk
       simp only
       rw [HK.out];exact HV.out)
     clear oz gz bz o9 hbase9 d0 d1 d2 d3 d4 d5 d6 d7;go_wp2
     go_roundw
     case rel=>exact ⟨k+1,ao',cap',_,by omega,by go_num,rfl,HLN.out,HAN.out,HO.out,HWZ.out⟩
     case measure=>simp [intOf]; omega
    ·(go_upto_region 9 with fail);have HCS:Hid (#[Value.bool true,.int .i64 K,.bool false,.int .i64 0,.int .i64 0,.int .i64 0,.int .i64 0,.int .i64 0].toList=ptF.cs ⟨true,K,false,⟨0,0,0,0,0⟩⟩):=hide rfl;obtain ⟨d0,d1,d2,d3,d4,d5,d6,d7⟩:=zcJ kX;have o9:=zl o6 (zg w6 (.cells #[.bool true,.int .i64 K,.bool false,.int .i64 0,.int .i64 0,.int .i64 0,.int .i64 0,.int .i64 0] 79));have hbase9:w.heap.size≤(w6.alloc (.cells #[.bool true,.int .i64 K,.bool false,.int .i64 0,.int .i64 0,.int .i64 0,.int .i64 0,.int .i64 0] 79)).heap.size:=by have:=wn6.grown.size; simp; omega
     have HW9:Hid (Went w (w6.alloc (.cells #[.bool true,.int .i64 K,.bool false,.int .i64 0,.int .i64 0,.int .i64 0,.int .i64 0,.int .i64 0] 79)) C a0 l0 c0 z0):=hide (wn6.made (zg w6 _));go_wp2_with (at_builtin; refine zci _ rfl _ _ rfl w.heap.size _ k l rfl o9 _ 1 1 [⟨true,K,false,⟨0,0,0,0,0⟩⟩] rfl (zax ptF _ _ _ _ HCS.out) (by omega) hbase9 ?_)
     rintro ao' cap' wz oz - gz bz;have HO:=hide oz;have HWZ:=hide (HW9.out.madeAt bz hlt (Nat.le_refl _));have HLN:Hid ((l++[(⟨true,K,false,⟨0,0,0,0,0⟩⟩:PT)]).length=k+1):=hide (by simp [HL.out]);have HAN:Hid (∀y∈l++[(⟨true,K,false,⟨0,0,0,0,0⟩⟩:PT)],ptOk y=true):=hide (by
      intro y hy;rcases List.mem_append.1 hy with hy | hy
      ·exact HA.out y hy
      ·have e:y=_:=List.mem_singleton.1 hy;subst e;unfold ptOk
       simp only
       rw [HK.out]
       rfl)
     clear oz gz bz o9 hbase9 d0 d1 d2 d3 d4 d5 d6 d7;go_wp2
     go_roundw
     case rel=>exact ⟨k+1,ao',cap',_,by omega,by go_num,rfl,HLN.out,HAN.out,HO.out,HWZ.out⟩
     case measure=>simp [intOf]; omega
   ·(go_upto_region 6 with fail);generalize hw5:w4.alloc (.cells #[.bool false,.int .i64 K,.bool false,.int .i64 0,.int .i64 0,.int .i64 0,.int .i64 0,.int .i64 0] 79)=w5;have b5:=zb hw5;have kX:=zk hw5;have o5:=zl o4 b5;have wn5:=wn4.made b5;obtain ⟨e0,e1,e2,e3,e4,e5,e6,e7⟩:=zcJ kX;clear o4 wn4 b5;(go_upto_region 9 with fail);clear e0 e1 e2 e3 e4 e5 e6 e7 hw5;have HCS:Hid (#[Value.bool false,.int .i64 K,.bool false,.int .i64 0,.int .i64 0,.int .i64 0,.int .i64 0,.int .i64 0].toList=ptF.cs ⟨false,K,false,⟨0,0,0,0,0⟩⟩):=hide rfl;obtain ⟨d0,d1,d2,d3,d4,d5,d6,d7⟩:=zcJ kX;have o9:=zl o5 (zg w5 (.cells #[.bool false,.int .i64 K,.bool false,.int .i64 0,.int .i64 0,.int .i64 0,.int .i64 0,.int .i64 0] 79));have hbase9:w.heap.size≤(w5.alloc (.cells #[.bool false,.int .i64 K,.bool false,.int .i64 0,.int .i64 0,.int .i64 0,.int .i64 0,.int .i64 0] 79)).heap.size:=by have:=wn5.grown.size; simp; omega
    have HW9:Hid (Went w (w5.alloc (.cells #[.bool false,.int .i64 K,.bool false,.int .i64 0,.int .i64 0,.int .i64 0,.int .i64 0,.int .i64 0] 79)) C a0 l0 c0 z0):=hide (wn5.made (zg w5 _));go_wp2_with (at_builtin; refine zci _ rfl _ _ rfl w.heap.size _ k l rfl o9 _ 1 1 [⟨false,K,false,⟨0,0,0,0,0⟩⟩] rfl (zax ptF _ _ _ _ HCS.out) (by omega) hbase9 ?_)
    rintro ao' cap' wz oz - gz bz;have HO:=hide oz;have HWZ:=hide (HW9.out.madeAt bz hlt (Nat.le_refl _));have HLN:Hid ((l++[(⟨false,K,false,⟨0,0,0,0,0⟩⟩:PT)]).length=k+1):=hide (by simp [HL.out]);have HAN:Hid (∀y∈l++[(⟨false,K,false,⟨0,0,0,0,0⟩⟩:PT)],ptOk y=true):=hide (by
     intro y hy;rcases List.mem_append.1 hy with hy | hy
     ·exact HA.out y hy
     ·have e:y=_:=List.mem_singleton.1 hy;subst e;unfold ptOk
      simp only
      rw [HK.out]
      rfl)
    clear oz gz bz o9 hbase9 d0 d1 d2 d3 d4 d5 d6 d7;go_wp2
    go_roundw
    case rel=>exact ⟨k+1,ao',cap',_,by omega,by go_num,rfl,HLN.out,HAN.out,HO.out,HWZ.out⟩
    case measure=>simp [intOf]; omega
  ·have hkm:k=m:=by omega
   subst hkm;go_wp2;go_ret;exact ⟨ao,cap,l,rfl,HL.out,HA.out,o2,wn2⟩

def zgh (N:Nat):Value→Bool
 | .string S=>decide (S.size≤N)
 | _=>false
def strOk (v:Value):Bool:=zgh 30 v

theorem zi3 {N:Nat} {v:Value} (h:zgh N v=true):∃S:ByteArray,v=.string S∧S.size≤N:=by
 cases v with
 | string S=>exact ⟨S,rfl,of_decide_eq_true h⟩
 | _=>cases h

theorem zfB (N:Nat) (C:Nat) (a0:Option Addr) (l0 c0:Nat) (z0:List Int) (cs:Array Value) (B n:Nat) (w:World) (hc:Cur w C a0 l0 c0 z0) (hB:B=w.heap.size) (hn:cs.size=n) (hall:cs.all (zgh N)=true) (hn0:0 < n) (hn1:n≤1000) :
  Calls Tryz.prog 79 #[.pointer (some ⟨C,0,none⟩),.slice (some ⟨B,0,none⟩) n n] (w.alloc (.cells cs 9)) fun e w'=>∃S:ByteArray,S.size≤N∧e=.returned (.string S)∧Went w w' C a0 l0 c0 z0:=by
 subst hB;have hb:Below w.heap.size w (w.alloc (.cells cs 9)):=(Below.refl _ _).alloc (Nat.le_refl _) _;have hst:=Went.start hc hb;have hlt:=hc.lt;have hcell:∀j,j < n→∃S:ByteArray,(w.alloc (.cells cs 9)).cell? ⟨w.heap.size,j,none⟩=some (.string S)∧S.size≤N:=by
  intro j hj;have hj':j < cs.size:=by omega
  have h1:zgh N cs[j]=true:=(Array.all_eq_true.1 hall) j hj';obtain ⟨S,e,hS⟩:=zi3 h1;refine ⟨S, ?_,hS⟩
  have:(w.alloc (.cells cs 9)).cell? ⟨w.heap.size,j,none⟩=cs[j]? := by simp
  rw [this,Array.getElem?_eq_getElem hj',e]
 have HC:=hide hcell;clear hcell hall;generalize w.alloc (.cells cs 9)=w1 at *;go_enter Tryz.func79,Tryz.ntmps79;go_wp2_with fail
 refine (zy C a0 l0 c0 z0 n _ hst.cur (by omega)).mono ?_;rintro e w2 ⟨x,rfl,hx0,hx1,hx2,went⟩;have hx1:=hx1 (by omega);obtain ⟨j,rfl⟩:∃j:Nat,x=j:=⟨x.toNat,by omega⟩;obtain ⟨S,hS,hSs⟩:=HC.out j (by omega);have cx:w2.cell? ⟨w.heap.size,j,none⟩=some (.string S):=went.grown.cell hS (by intro e; simp at e; omega);clear hS;go_wp2;go_ret;exact ⟨S,hSs,rfl,hst.trans went⟩

theorem zhE {w:World} {base g n cap:Nat} {x:PT} {t:List PT} (h:w.ownsRow base 79 8 (.slice (some ⟨g,0,none⟩) n cap) n (ptF.all (x::t))) :
  (w.cell? ⟨g,0,none⟩=some (.bool x.up)∧w.cell? ⟨g,1,none⟩=some (.int .i64 x.k)∧w.cell? ⟨g,2,none⟩=some (.bool x.has)∧w.cell? ⟨g,3,none⟩=some (.int .i64 x.v.r)∧w.cell? ⟨g,4,none⟩=some (.int .i64 x.v.c)∧w.cell? ⟨g,5,none⟩=some (.int .i64 x.v.h)∧w.cell? ⟨g,6,none⟩=some (.int .i64 x.v.b)∧w.cell? ⟨g,7,none⟩=some (.int .i64 x.v.p)) ∧
  (w.frozen? ⟨g,0,none⟩=false∧w.frozen? ⟨g,1,none⟩=false∧w.frozen? ⟨g,2,none⟩=false∧w.frozen? ⟨g,3,none⟩=false∧w.frozen? ⟨g,4,none⟩=false∧w.frozen? ⟨g,5,none⟩=false∧w.frozen? ⟨g,6,none⟩=false∧w.frozen? ⟨g,7,none⟩=false):=by
 have:=zem (i:=0) (x:=x) h rfl
 simpa only [Nat.zero_mul,Nat.zero_add] using this

theorem zcn {w:World} {base g n cap:Nat} {x y:PT} {t:List PT} (h:w.ownsRow base 79 8 (.slice (some ⟨g,0,none⟩) n cap) n (ptF.all (x::t))) (j:Nat) (u:Value) (hj:j < 8) (hx:(ptF.cs x).set j u=ptF.cs y) :
  (w.setCell ⟨g,j,none⟩ u).ownsRow base 79 8 (.slice (some ⟨g,0,none⟩) n cap) n (ptF.all (y::t)):=by
 have:=zK (F:=ptF) (pre:=[]) (x':=y) h j u hj hx
 simp only [List.length_nil,Nat.zero_mul,Nat.zero_add,List.nil_append] at this;exact this

theorem ziG {w:World} {base g n cap:Nat} {x:PT} {t:List PT} (R K H B P:Int) (h:w.ownsRow base 79 8 (.slice (some ⟨g,0,none⟩) n cap) n (ptF.all (x::t))) :
  (((((w.setCell ⟨g,3,none⟩ (.int .i64 R)).setCell ⟨g,4,none⟩ (.int .i64 K)).setCell ⟨g,5,none⟩ (.int .i64 H)).setCell ⟨g,6,none⟩ (.int .i64 B)).setCell ⟨g,7,none⟩ (.int .i64 P)).ownsRow base 79 8 (.slice (some ⟨g,0,none⟩) n cap) n (ptF.all (⟨x.up,x.k,x.has,⟨R,K,H,B,P⟩⟩::t)) :=
 zcn (y:=⟨x.up,x.k,x.has,⟨R,K,H,B,P⟩⟩) (zcn (y:=⟨x.up,x.k,x.has,⟨R,K,H,B,x.v.p⟩⟩) (zcn (y:=⟨x.up,x.k,x.has,⟨R,K,H,x.v.b,x.v.p⟩⟩) (zcn (y:=⟨x.up,x.k,x.has,⟨R,K,x.v.h,x.v.b,x.v.p⟩⟩) (zcn (y:=⟨x.up,x.k,x.has,⟨R,x.v.c,x.v.h,x.v.b,x.v.p⟩⟩) h 3 _ (by decide) rfl) 4 _ (by decide) rfl) 5 _ (by decide) rfl) 6 _ (by decide) rfl) 7 _ (by decide) rfl

theorem ziK (C:Nat) (a0:Option Addr) (l0 c0:Nat) (z0:List Int) (w:World) (hc:Cur w C a0 l0 c0 z0) :
  Calls Tryz.prog 80 #[.pointer (some ⟨C,0,none⟩)] w fun e w'=>∃(ao:Option Addr) (cap m:Nat) (l:List PT),e=.returned (.slice ao m cap)∧1≤m∧m≤4∧l.length=m∧w'.ownsRow w.heap.size 79 8 (.slice ao m cap) m (ptF.all l)∧Went w w' C a0 l0 c0 z0:=by
 have hlt:=hc.lt;go_enter Tryz.func80,Tryz.ntmps80;go_wp2_with fail
 refine (zy C a0 l0 c0 z0 4 _ hc (by omega)).mono ?_;rintro e w1 ⟨x,rfl,hx0,hx1,-,wn1⟩;have hx1:=hx1 (by omega);obtain ⟨m,hm⟩:∃m:Nat,1+x=(m:Int):=⟨(1+x).toNat,by omega⟩;have h1:1≤m:=by omega
 have h4:m≤4:=by omega
 go_wp2_with fail
 refine (zeO C a0 l0 c0 z0 (m:Int) m _ wn1.cur rfl (by omega)).mono ?_;rintro e w2 ⟨ao,cap,l,rfl,hl,-,o2,wt⟩;have wn2:=wn1.trans wt;have o2:=zL o2 (base':=w.heap.size) wn1.grown.size;clear wt wn1 hm hx0 hx1;obtain ⟨g,rfl,hg,-⟩:=zdC o2 (by omega);obtain ⟨x1,t,rfl⟩:∃x1 t,l=x1::t:=by
  cases l with
  | nil=>simp at hl; omega
  | cons y t=>exact ⟨y,t,rfl⟩
 have HG:=hide hg;have hlen:∀y:PT,(y::t).length=m:=fun y=>by simpa using hl
 have HLEN:Hid (∀y:PT,(y::t).length=m):=hide hlen;have HM:=hide hl;clear hg hlen hl;go_wp2_with fail
 refine (zy C a0 l0 c0 z0 12 _ wn2.cur (by omega)).mono ?_;rintro e w3 ⟨y,rfl,hy0,hy1,-,wt⟩;have hy1:=hy1 (by omega);have wn3:=wn2.trans wt;have o3:=zw o2 wt.grown (fun b hb=>by cases hb; exact hlt);clear wt wn2 o2;have i0:(0:Int) < (m:Int):=by omega
 by_cases y0:y=0
 ·subst y0;(go_wp2_with fail);refine (zgG C a0 l0 c0 z0 _ wn3.cur).mono ?_;rintro e w4 ⟨R,K,H,B,P,rfl,wt⟩;have wn4:=wn3.trans wt;have o4:=zw o3 wt.grown (fun b hb=>by cases hb; exact hlt);clear wt wn3 o3;obtain ⟨⟨d0,d1,d2,d3,d4,d5,d6,d7⟩,f0,f1,f2,f3,f4,f5,f6,f7⟩:=zhE o4;have HO:Hid ((((((w4.setCell ⟨g,3,none⟩ (.int .i64 R)).setCell ⟨g,4,none⟩ (.int .i64 K)).setCell ⟨g,5,none⟩ (.int .i64 H)).setCell ⟨g,6,none⟩ (.int .i64 B)).setCell ⟨g,7,none⟩ (.int .i64 P)).ownsRow w.heap.size 79 8 (.slice (some ⟨g,0,none⟩) m cap) m (ptF.all ((⟨x1.up,x1.k,x1.has,⟨R,K,H,B,P⟩⟩:PT)::t))):=hide (ziG R K H B P o4);have HW:=hide (wn4.madeAt (zj (zj (zj (zj (zj (Below.refl w.heap.size w4) (g:=g) HG.out 3 (.int .i64 R)) (g:=g) HG.out 4 (.int .i64 K)) (g:=g) HG.out 5 (.int .i64 H)) (g:=g) HG.out 6 (.int .i64 B)) (g:=g) HG.out 7 (.int .i64 P)) hlt (Nat.le_refl _));clear o4 wn4;go_wp2;go_ret;exact ⟨_,cap,m,(⟨x1.up,x1.k,x1.has,⟨R,K,H,B,P⟩⟩:PT)::t,rfl,h1,h4,HLEN.out _,HO.out,HW.out⟩
 by_cases y1:y=1
 ·subst y1;(go_wp2_with fail);refine (zan C a0 l0 c0 z0 [0,1000,1001] _ _ w3 wn3.cur rfl rfl (by simp) (by simp)).mono ?_;rintro e w4 ⟨K,-,rfl,wt⟩;have wn4:=wn3.trans wt;have o4:=zw o3 wt.grown (fun b hb=>by cases hb; exact hlt);clear wt wn3 o3;obtain ⟨⟨d0,d1,d2,d3,d4,d5,d6,d7⟩,f0,f1,f2,f3,f4,f5,f6,f7⟩:=zhE o4;have HO:Hid ((w4.setCell ⟨g,1,none⟩ (.int .i64 K)).ownsRow w.heap.size 79 8 (.slice (some ⟨g,0,none⟩) m cap) m (ptF.all ((⟨x1.up,K,x1.has,x1.v⟩:PT)::t))):=hide (zcn (y:=⟨x1.up,K,x1.has,x1.v⟩) o4 1 _ (by decide) rfl);have HW:=hide (wn4.madeAt (zj (Below.refl w.heap.size w4) (g:=g) HG.out 1 (.int .i64 K)) hlt (Nat.le_refl _));clear o4 wn4;go_wp2;go_ret;exact ⟨_,cap,m,(⟨x1.up,K,x1.has,x1.v⟩:PT)::t,rfl,h1,h4,HLEN.out _,HO.out,HW.out⟩
 by_cases y2:y=2
 ·subst y2;obtain ⟨⟨d0,d1,d2,d3,d4,d5,d6,d7⟩,f0,f1,f2,f3,f4,f5,f6,f7⟩:=zhE o3;have HO:Hid ((w3.setCell ⟨g,0,none⟩ (.bool false)).ownsRow w.heap.size 79 8 (.slice (some ⟨g,0,none⟩) m cap) m (ptF.all ((⟨false,x1.k,x1.has,x1.v⟩:PT)::t))):=hide (zcn (y:=⟨false,x1.k,x1.has,x1.v⟩) o3 0 _ (by decide) rfl);have HW:=hide (wn3.madeAt (zj (Below.refl w.heap.size w3) (g:=g) HG.out 0 (.bool false)) hlt (Nat.le_refl _));clear o3 wn3;go_wp2;go_ret;exact ⟨_,cap,m,(⟨false,x1.k,x1.has,x1.v⟩:PT)::t,rfl,h1,h4,HLEN.out _,HO.out,HW.out⟩
 have HO:=hide o3;have HW:=hide wn3;clear o3 wn3;go_wp2;go_ret;exact ⟨_,cap,m,x1::t,rfl,h1,h4,HLEN.out _,HO.out,HW.out⟩

def BR.Rg (B:BR):Prop:=(∀x∈B.f,x.Rng)∧∀r∈B.v.rows,r.Rng

theorem ok_rg {B:BR} (h:zz B=true):B.Rg:=by
 unfold zz at h;simp only [Bool.and_eq_true] at h;obtain ⟨-,-,-,hp,hf,hv,-⟩:=h;refine ⟨fun x hx=>zhi ((((zaP B.f).1 hf).1).1 x hx),fun r hr => ?_⟩;unfold zU at hv;simp only [Bool.and_eq_true,List.all_eq_true] at hv;have h1:=hv.1.1.2 r hr;unfold zbi at h1;simp only [Bool.and_eq_true] at h1;have ha:allOf ((B.ports.length:Int)).toNat≤63:=by
  unfold in3 at hp;simp only [Bool.and_eq_true,decide_eq_true_eq] at hp;rw [Int.toNat_natCast];rcases (show B.ports.length=1∨B.ports.length=2∨B.ports.length=3∨B.ports.length=4∨B.ports.length=5∨B.ports.length=6 by omega) with e | e | e | e | e | e <;> rw [e] <;> decide
 unfold in3 at h1;simp only [Bool.and_eq_true,decide_eq_true_eq] at h1;unfold VR.Rng I64;omega

section


structure T3 where
 r:Int
 c:Int
 h:Int

section
variable {m:Nat} {id:Nat→Int} {E:Nat→Nat→Nat→Int→Prop}

variable {B:Nat→Nat→T3}

end

end

def zg4 (x y:VD):Bool:=(x.r == y.r) && ((x.c == y.c) && ((x.h == y.h) && ((x.b == y.b) && (x.p == y.p))))
def zg3 (x y:PT):Bool:=(x.up == y.up) && ((x.k == y.k) && ((x.has == y.has) && zg4 x.v y.v))
def zg1 (x y:FE):Bool:=(x.t == y.t) && ((x.m == y.m) && ((x.p == y.p) && ((x.a == y.a) && (x.s == y.s))))
def zg5 (x y:VR):Bool:=(x.i == y.i) && ((x.m == y.m) && (x.b == y.b))

theorem zfI (x y:PT):zg3 x y=true↔x=y:=by
 obtain ⟨u,k,h,⟨r,c,hh,b,p⟩⟩:=x;obtain ⟨u',k',h',⟨r',c',hh',b',p'⟩⟩:=y
 simp [zg3,zg4]

theorem zfH (x y:FE):zg1 x y=true↔x=y:=by
 obtain ⟨t,m,p,a,s⟩:=x;obtain ⟨t',m',p',a',s'⟩:=y
 simp [zg1]

theorem zfJ (x y:VR):zg5 x y=true↔x=y:=by
 obtain ⟨i,m,b⟩:=x;obtain ⟨i',m',b'⟩:=y
 simp [zg5]

theorem zgx (x y:FE) (w:World):(binOp .neq 95 (.agg #[.int .i64 x.t,.int .i64 x.m,.int .i64 x.p,.int .i64 x.a,.bool x.s]) (.agg #[.int .i64 y.t,.int .i64 y.m,.int .i64 y.p,.int .i64 y.a,.bool y.s])).run Tryz.prog w=.ok (.bool (!zg1 x y)) w:=by
 have u3:=Tryz.underlying3;have a3:=Tryz.isAgg3;have z3:=Tryz.sizeOf3;have u4:=Tryz.underlying4;have a4:=Tryz.isAgg4;have z4:=Tryz.sizeOf4;have hS:Tryz.prog.underlying 95=some (.struct (Tryz.prog.fieldsOf 95)):=by kernel_rfl
 have hp:Tryz.prog.stoodInHeld 95=false:=by kernel_rfl
 rw [run_neq_struct,show (10000:Nat)=9999+1 from rfl,run_equalIn_agg w 9999 95 _ _ hS hp];simp only [Program.fieldsOf,Tryz.underlying95];unfold zg1;go_simp;by_cases h1:x.t=y.t <;> by_cases h2:x.m=y.m <;> by_cases h3:x.p=y.p <;> by_cases h4:x.a=y.a <;> by_cases h5:x.s=y.s <;> simp [h1,h2,h3,h4,h5]

theorem zha (x y:VR) (w:World):(binOp .neq 98 (.agg #[.int .i64 x.i,.int .i64 x.m,.int .i64 x.b]) (.agg #[.int .i64 y.i,.int .i64 y.m,.int .i64 y.b])).run Tryz.prog w=.ok (.bool (!zg5 x y)) w:=by
 have u3:=Tryz.underlying3;have a3:=Tryz.isAgg3;have z3:=Tryz.sizeOf3;have hS:Tryz.prog.underlying 98=some (.struct (Tryz.prog.fieldsOf 98)):=by kernel_rfl
 have hp:Tryz.prog.stoodInHeld 98=false:=by kernel_rfl
 rw [run_neq_struct,show (10000:Nat)=9999+1 from rfl,run_equalIn_agg w 9999 98 _ _ hS hp];simp only [Program.fieldsOf,Tryz.underlying98];unfold zg5;go_simp;by_cases h1:x.i=y.i <;> by_cases h2:x.m=y.m <;> by_cases h3:x.b=y.b <;> simp [h1,h2,h3]

theorem zjT (x y:PT) (w:World):(binOp .neq 79 (.agg #[.bool x.up,.int .i64 x.k,.bool x.has,.int .i64 x.v.r,.int .i64 x.v.c,.int .i64 x.v.h,.int .i64 x.v.b,.int .i64 x.v.p]) (.agg #[.bool y.up,.int .i64 y.k,.bool y.has,.int .i64 y.v.r,.int .i64 y.v.c,.int .i64 y.v.h,.int .i64 y.v.b,.int .i64 y.v.p])).run Tryz.prog w=.ok (.bool (!zg3 x y)) w:=by
 have u3:=Tryz.underlying3;have a3:=Tryz.isAgg3;have z3:=Tryz.sizeOf3;have u4:=Tryz.underlying4;have a4:=Tryz.isAgg4;have z4:=Tryz.sizeOf4;have u5:=Tryz.underlying72;have a5:=Tryz.isAgg72;have z5:=Tryz.sizeOf72;have hS:Tryz.prog.underlying 79=some (.struct (Tryz.prog.fieldsOf 79)):=by kernel_rfl
 have hp:Tryz.prog.stoodInHeld 79=false:=by kernel_rfl
 have hS5:Tryz.prog.underlying 72=some (.struct (Tryz.prog.fieldsOf 72)):=by kernel_rfl
 have hp5:Tryz.prog.stoodInHeld 72=false:=by kernel_rfl
 have hE:∀W,(Op.equalIn 9999 72 (.agg #[.int .i64 x.v.r,.int .i64 x.v.c,.int .i64 x.v.h,.int .i64 x.v.b,.int .i64 x.v.p]) (.agg #[.int .i64 y.v.r,.int .i64 y.v.c,.int .i64 y.v.h,.int .i64 y.v.b,.int .i64 y.v.p])).run Tryz.prog W=.ok (zg4 x.v y.v) W:=by
  intro W;rw [show (9999:Nat)=9998+1 from rfl,run_equalIn_agg W 9998 72 _ _ hS5 hp5];simp only [Program.fieldsOf,Tryz.underlying72];unfold zg4;clear hS hp hS5 hp5 u4 a4 z4 u5 a5 z5;go_simp;by_cases h1:x.v.r=y.v.r <;> by_cases h2:x.v.c=y.v.c <;> by_cases h3:x.v.h=y.v.h <;> by_cases h4:x.v.b=y.v.b <;> by_cases h5:x.v.p=y.v.p <;> simp [h1,h2,h3,h4,h5]
 rw [run_neq_struct,show (10000:Nat)=9999+1 from rfl,run_equalIn_agg w 9999 79 _ _ hS hp];simp only [Program.fieldsOf,Tryz.underlying79];unfold zg3;generalize hV:zg4 x.v y.v=V at *;clear hS hp hS5 hp5 hV;go_simp;by_cases h1:x.up=y.up <;> by_cases h2:x.k=y.k <;> by_cases h3:x.has=y.has <;> cases V <;> simp [h1,h2,h3]

theorem zkq (a b c d e a' b' c' d' e':Int) (w:World):(binOp .eql 100 (.agg #[.int .i64 a,.int .i64 b,.int .i64 c,.int .i64 d,.int .i64 e]) (.agg #[.int .i64 a',.int .i64 b',.int .i64 c',.int .i64 d',.int .i64 e'])).run Tryz.prog w=.ok (.bool ((a == a') && ((b == b') && ((c == c') && ((d == d') && (e == e')))))) w:=by
 have u3:=Tryz.underlying3;have a3:=Tryz.isAgg3;have z3:=Tryz.sizeOf3;obtain ⟨i0,hi,-,-,-⟩:=zbw (k:=1) Tryz.infoI64;have hc:Tryz.prog.cellsOf 3=1:=by kernel_rfl
 rw [run_eql_struct,show (10000:Nat)=9999+1 from rfl,run_equalIn_array w 9999 _ _ Tryz.underlying100 hi,hc];simp only [show List.range 5=[0,1,2,3,4] from rfl,Op.eqItems];go_simp;by_cases h1:a=a' <;> by_cases h2:b=b' <;> by_cases h3:c=c' <;> by_cases h4:d=d' <;> by_cases h5:e=e' <;> simp [h1,h2,h3,h4,h5]

end Go.Proofs.YtkcoehmpnkdinaaGreat
