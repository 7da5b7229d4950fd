/-
  Packed: DrawVec DrawPt GTake DrawStr FdbEnt DrawOid TextRow MarkText PduMark PduEq VrowHelp ValSame.
-/
import Derived.Test.YtljbdmlgfggadaaGreatPGK05
import Derived.Laws.IdiomStrings
namespace Go.Proofs.YtljbdmlgfggadaaGreat
set_option maxRecDepth 100000
set_option maxHeartbeats 16000000
open Go.RowKit

theorem zhm (C:Nat) (a0:Option Addr) (l0 c0:Nat) (z0:List Int) (w:World) (hc:Cur w C a0 l0 c0 z0) :
  Calls Tryz.prog 99 #[.pointer (some ⟨C,0,none⟩)] w fun e w'=>∃(R K H B P:Int),e=.returned (.agg #[.int .i64 R,.int .i64 K,.int .i64 H,.int .i64 B,.int .i64 P])∧okVc R K H B P=true∧Went w w' C a0 l0 c0 z0:=by
 have hlt:=hc.lt;have q0:=zh w (.cells #[.int .i64 0,.int .i64 0,.int .i64 0,.int .i64 0,.int .i64 0] 116);have wn0:=Went.start hc q0;have hk0:=zB w (.cells #[.int .i64 0,.int .i64 0,.int .i64 0,.int .i64 0,.int .i64 0] 116);go_enter Tryz.func99,Tryz.ntmps99;go_wp2_with fail
 refine (zz C a0 l0 c0 z0 5 _ wn0.cur (by omega)).mono ?_;rintro e w1 ⟨r1,rfl,hx1,hy1,-,went1⟩;have hy1:=hy1 (by omega);have wn1:=wn0.trans went1;have k1:=zr hk0 went1.grown (fun j hj=>by cases hj; omega);clear wn0 went1 hk0;go_wp2_with fail
 refine (zbj C a0 l0 c0 z0 [0,1,2,5,10,100] _ _ w1 wn1.cur rfl rfl (by simp) (by simp)).mono ?_;rintro e w2 ⟨K,hK,rfl,went2⟩;have HK:Hid (0≤K∧K≤100):=hide (by simp at hK; omega);clear hK;have wn2:=wn1.trans went2;have k2:=zr k1 went2.grown (fun j hj=>by cases hj; omega);clear wn1 went2 k1;go_wp2_with fail
 refine (zbj C a0 l0 c0 z0 [0,1,2,9,10] _ _ w2 wn2.cur rfl rfl (by simp) (by simp)).mono ?_;rintro e w3 ⟨H,hH,rfl,went3⟩;have HH:Hid (0≤H∧H≤10):=hide (by simp at hH; omega);clear hH;have wn3:=wn2.trans went3;have k3:=zr k2 went3.grown (fun j hj=>by cases hj; omega);clear wn2 went3 k2;go_wp2_with fail
 refine (zz C a0 l0 c0 z0 5 _ wn3.cur (by omega)).mono ?_;rintro e w4 ⟨r4,rfl,hx4,hy4,-,went4⟩;have hy4:=hy4 (by omega);have wn4:=wn3.trans went4;have k4:=zr k3 went4.grown (fun j hj=>by cases hj; omega);clear wn3 went4 k3;go_wp2_with fail
 refine (zz C a0 l0 c0 z0 4 _ wn4.cur (by omega)).mono ?_;rintro e w5 ⟨r5,rfl,hx5,hy5,-,went5⟩;have hy5:=hy5 (by omega);have HOK:Hid (okVc (1+r1) K H (1+r4) r5=true):=hide (by have h1:=HK.out; have h2:=HH.out; unfold okVc; simp; omega);have wn5:=wn4.trans went5;have k5:=zr k4 went5.grown (fun j hj=>by cases hj; omega);obtain ⟨⟨x0,x1,x2,x3,x4⟩,f0,f1,f2,f3,f4⟩:=zo k5;clear wn4 went5 k4 k5;go_wp2;exact bodyPost_ret (v:=.agg #[.int .i64 (1+r1),.int .i64 K,.int .i64 H,.int .i64 (1+r4),.int .i64 r5]) (by simp [results,Tryz.results99,go_sem, *]) rfl ⟨_,_,_,_,_,rfl,HOK.out,wn5.madeAt (zU (Below.refl _ _) (Nat.le_refl w.heap.size) _ _ _ _ _) hlt (Nat.le_refl _)⟩

theorem zfP (C:Nat) (a0:Option Addr) (l0 c0:Nat) (z0:List Int) (N:Int) (m:Nat) (w:World) (hc:Cur w C a0 l0 c0 z0) (hN:N=m) (hm:m≤1000) :
  Calls Tryz.prog 66 #[.pointer (some ⟨C,0,none⟩),.int .i64 N] w fun e w'=>∃(ao:Option Addr) (cap:Nat) (l:List PT),e=.returned (.slice ao m cap)∧l.length=m∧(∀x∈l,ptOk x=true)∧w'.ownsRow w.heap.size 118 8 (.slice ao m cap) m (ptF.all l)∧Went w w' C a0 l0 c0 z0:=by
 subst hN;have hlt:=hc.lt;go_enter Tryz.func66,Tryz.ntmps66;go_wp2_with fail
 generalize hw1:w.alloc (Obj.cells #[] 118)=w1;have b1:=zb hw1;have o1:w1.ownsRow w.heap.size 118 8 (.slice (some ⟨w.heap.size,0,none⟩) 0 0) 0 (ptF.all []):=zaK ptF w w1 118 w.heap.size (zk hw1) (Nat.le_refl _);have wn1:=Went.start hc b1;clear hw1 b1
 go_loopw [5,6] (fun o i wr=>∃(k:Nat) (ao:Option Addr) (cap:Nat) (l:List PT),k≤m∧i=.int .i64 k∧o=.slice ao k cap∧l.length=k∧(∀x∈l,ptOk x=true)∧wr.ownsRow w.heap.size 118 8 (.slice ao k cap) k (ptF.all l)∧Went w wr C a0 l0 c0 z0) (fun _ i _=>m - (intOf i).toNat)
 case atStart=>exact ⟨0,_,_,[],Nat.zero_le _,rfl,rfl,rfl,(by intro x hx; cases hx),o1,wn1⟩
 case round =>
  obtain ⟨k,ao,cap,l,hk,rfl,rfl,hl,hall,o2,wn2⟩:=hrel;have HA:=hide hall;clear hall;clear wn1 o1;have HL:=hide hl;clear hl;by_cases hk0:k < m
  ·(go_wp2_with fail);refine (zdC C a0 l0 c0 z0 4 _ wn2.cur (by omega)).mono ?_;rintro e w3 ⟨q,rfl,wt⟩;have wn3:=wn2.trans wt;have o3:=zC o2 wt.grown (fun b hb=>by cases hb; exact hlt);clear wt wn2 o2;(go_wp2_with fail);refine (zbj C a0 l0 c0 z0 [1,1,2,5,10] _ _ w3 wn3.cur rfl rfl (by simp) (by simp)).mono ?_;rintro e w4 ⟨K,hK,rfl,wt⟩;have HK:Hid ((decide (1≤K) && decide (K≤1000))=true):=hide (by simp at hK; simp; omega);clear hK;have wn4:=wn3.trans wt;have o4:=zC o3 wt.grown (fun b hb=>by cases hb; exact hlt);clear wt wn3 o3;have ob:=hide (zis o4);have hX:w.heap.size≤w4.heap.size:=wn4.grown.size;have HX:=hide hX;have hCX:C≠w4.heap.size:=by omega
   have HCX:=hide hCX;clear hX hCX;cases q
   ·(go_upto_region 6 with fail);generalize hw5:w4.alloc (.cells #[.bool true,.int .i64 K,.bool false,.int .i64 0,.int .i64 0,.int .i64 0,.int .i64 0,.int .i64 0] 118)=w5;have b5:=zb hw5;have kX:=zk hw5;have o5:=zm o4 b5;have wn5:=wn4.made b5;obtain ⟨d0,d1,d2,d3,d4,d5,d6,d7⟩:=zcd kX;clear o4 wn4 b5;(go_wp2_with fail);refine (zdC C a0 l0 c0 z0 4 _ wn5.cur (by omega)).mono ?_;rintro e w6 ⟨r,rfl,wt⟩;have wn6:=wn5.trans wt;have o6:=zC o5 wt.grown (fun b hb=>by cases hb; exact hlt);have kX:=zr kX wt.grown (fun i e=>by cases e; exact HCX.out);clear wt wn5 o5 hw5 d0 d1 d2 d3 d4 d5 d6 d7;cases r
    ·obtain ⟨d0,d1,d2,d3,d4,d5,d6,d7⟩:=zcd kX;have f2:=zQ kX 2;generalize hw7:w6.setCell ⟨w4.heap.size,2,none⟩ (.bool true)=w7;have kY:w7.heap[w4.heap.size]?=some (.cells #[.bool true,.int .i64 K,.bool true,.int .i64 0,.int .i64 0,.int .i64 0,.int .i64 0,.int .i64 0] 118):=by rw [← hw7]; exact zgU kX _
     have o7:=zI o6 (zl (rb:=w4.heap.size) 2 (.bool true)) (fun b hb=>Nat.ne_of_lt (ob.out b hb));rw [hw7] at o7;have wn7:=wn6.madeAt (zj (Below.refl w.heap.size w6) (g:=w4.heap.size) HX.out 2 (.bool true)) hlt (Nat.le_refl _);rw [hw7] at wn7;clear wn6 o6 kX;(go_wp2_with fail);refine (zhm C a0 l0 c0 z0 _ wn7.cur).mono ?_;rintro e w8 ⟨vr,vc,vh,vb,vp,rfl,hok,wt⟩;have HV:=hide hok;clear hok;have wn8:=wn7.trans wt;have o8:=zC o7 wt.grown (fun b hb=>by cases hb; exact hlt);have kX:=zr kY wt.grown (fun i e=>by cases e; exact HCX.out);clear wt wn7 o7 hw7 kY d0 d1 d2 d3 d4 d5 d6 d7 f2;obtain ⟨d0,d1,d2,d3,d4,d5,d6,d7⟩:=zcd kX;have f3:=zQ kX 3;have f4:=zQ kX 4;have f5:=zQ kX 5;have f6:=zQ kX 6;have f7:=zQ kX 7;generalize hw9:((((w8.setCell ⟨w4.heap.size,3,none⟩ (.int .i64 vr)).setCell ⟨w4.heap.size,4,none⟩ (.int .i64 vc)).setCell ⟨w4.heap.size,5,none⟩ (.int .i64 vh)).setCell ⟨w4.heap.size,6,none⟩ (.int .i64 vb)).setCell ⟨w4.heap.size,7,none⟩ (.int .i64 vp)=w9;have kY:w9.heap[w4.heap.size]?=some (.cells #[.bool true,.int .i64 K,.bool true,.int .i64 vr,.int .i64 vc,.int .i64 vh,.int .i64 vb,.int .i64 vp] 118):=by rw [← hw9]; exact zhF kX _ _ _ _ _
     have hne:∀b,(Value.slice ao k cap).ownBlock=some b→b≠w4.heap.size:=fun b hb=>Nat.ne_of_lt (ob.out b hb)
     have o9':=zI (zI (zI (zI (zI o8 (zl (rb:=w4.heap.size) 3 (.int .i64 vr)) hne) (zl (rb:=w4.heap.size) 4 (.int .i64 vc)) hne) (zl (rb:=w4.heap.size) 5 (.int .i64 vh)) hne) (zl (rb:=w4.heap.size) 6 (.int .i64 vb)) hne) (zl (rb:=w4.heap.size) 7 (.int .i64 vp)) hne;rw [hw9] at o9';have wn9:=wn8.madeAt (zj (zj (zj (zj (zj (Below.refl w.heap.size w8) (g:=w4.heap.size) HX.out 3 (.int .i64 vr)) HX.out 4 (.int .i64 vc)) HX.out 5 (.int .i64 vh)) HX.out 6 (.int .i64 vb)) HX.out 7 (.int .i64 vp)) hlt (Nat.le_refl _);rw [hw9] at wn9;clear wn8 o8 kX hne;(go_upto_region 9 with fail);clear d0 d1 d2 d3 d4 d5 d6 d7 f3 f4 f5 f6 f7 hw9;have HCS:Hid (#[Value.bool true,.int .i64 K,.bool true,.int .i64 vr,.int .i64 vc,.int .i64 vh,.int .i64 vb,.int .i64 vp].toList=ptF.cs ⟨true,K,true,⟨vr,vc,vh,vb,vp⟩⟩):=hide rfl;obtain ⟨d0,d1,d2,d3,d4,d5,d6,d7⟩:=zcd kY;have o9:=zm o9' (zh w9 (.cells #[.bool true,.int .i64 K,.bool true,.int .i64 vr,.int .i64 vc,.int .i64 vh,.int .i64 vb,.int .i64 vp] 118));have hbase9:w.heap.size≤(w9.alloc (.cells #[.bool true,.int .i64 K,.bool true,.int .i64 vr,.int .i64 vc,.int .i64 vh,.int .i64 vb,.int .i64 vp] 118)).heap.size:=by have:=wn9.grown.size; simp; omega
     have HW9:Hid (Went w (w9.alloc (.cells #[.bool true,.int .i64 K,.bool true,.int .i64 vr,.int .i64 vc,.int .i64 vh,.int .i64 vb,.int .i64 vp] 118)) C a0 l0 c0 z0):=hide (wn9.made (zh w9 _));go_wp2_with (at_builtin; refine zc3 _ rfl _ _ rfl w.heap.size _ k l rfl o9 _ 1 1 [⟨true,K,true,⟨vr,vc,vh,vb,vp⟩⟩] rfl (zaA ptF _ _ _ _ HCS.out) (by omega) hbase9 ?_)
     rintro ao' cap' wz oz - gz bz;have HO:=hide oz;have HWZ:=hide (HW9.out.madeAt bz hlt (Nat.le_refl _));have HLN:Hid ((l++[(⟨true,K,true,⟨vr,vc,vh,vb,vp⟩⟩:PT)]).length=k+1):=hide (by simp [HL.out]);have HAN:Hid (∀y∈l++[(⟨true,K,true,⟨vr,vc,vh,vb,vp⟩⟩:PT)],ptOk y=true):=hide (by
      intro y hy;rcases List.mem_append.1 hy with hy | hy
      ·exact HA.out y hy
      ·have e:y=_:=List.mem_singleton.1 hy;subst e;unfold ptOk
       simp only
       rw [HK.out];exact HV.out)
     clear oz gz bz o9 hbase9 d0 d1 d2 d3 d4 d5 d6 d7;go_wp2
     go_roundw
     case rel=>exact ⟨k+1,ao',cap',_,by omega,by go_num,rfl,HLN.out,HAN.out,HO.out,HWZ.out⟩
     case measure=>simp [intOf]; omega
    ·(go_upto_region 9 with fail);have HCS:Hid (#[Value.bool true,.int .i64 K,.bool false,.int .i64 0,.int .i64 0,.int .i64 0,.int .i64 0,.int .i64 0].toList=ptF.cs ⟨true,K,false,⟨0,0,0,0,0⟩⟩):=hide rfl;obtain ⟨d0,d1,d2,d3,d4,d5,d6,d7⟩:=zcd kX;have o9:=zm o6 (zh w6 (.cells #[.bool true,.int .i64 K,.bool false,.int .i64 0,.int .i64 0,.int .i64 0,.int .i64 0,.int .i64 0] 118));have hbase9:w.heap.size≤(w6.alloc (.cells #[.bool true,.int .i64 K,.bool false,.int .i64 0,.int .i64 0,.int .i64 0,.int .i64 0,.int .i64 0] 118)).heap.size:=by have:=wn6.grown.size; simp; omega
     have HW9:Hid (Went w (w6.alloc (.cells #[.bool true,.int .i64 K,.bool false,.int .i64 0,.int .i64 0,.int .i64 0,.int .i64 0,.int .i64 0] 118)) C a0 l0 c0 z0):=hide (wn6.made (zh w6 _));go_wp2_with (at_builtin; refine zc3 _ rfl _ _ rfl w.heap.size _ k l rfl o9 _ 1 1 [⟨true,K,false,⟨0,0,0,0,0⟩⟩] rfl (zaA ptF _ _ _ _ HCS.out) (by omega) hbase9 ?_)
     rintro ao' cap' wz oz - gz bz;have HO:=hide oz;have HWZ:=hide (HW9.out.madeAt bz hlt (Nat.le_refl _));have HLN:Hid ((l++[(⟨true,K,false,⟨0,0,0,0,0⟩⟩:PT)]).length=k+1):=hide (by simp [HL.out]);have HAN:Hid (∀y∈l++[(⟨true,K,false,⟨0,0,0,0,0⟩⟩:PT)],ptOk y=true):=hide (by
      intro y hy;rcases List.mem_append.1 hy with hy | hy
      ·exact HA.out y hy
      ·have e:y=_:=List.mem_singleton.1 hy;subst e;unfold ptOk
       simp only
       rw [HK.out]
       rfl)
     clear oz gz bz o9 hbase9 d0 d1 d2 d3 d4 d5 d6 d7;go_wp2
     go_roundw
     case rel=>exact ⟨k+1,ao',cap',_,by omega,by go_num,rfl,HLN.out,HAN.out,HO.out,HWZ.out⟩
     case measure=>simp [intOf]; omega
   ·(go_upto_region 6 with fail);generalize hw5:w4.alloc (.cells #[.bool false,.int .i64 K,.bool false,.int .i64 0,.int .i64 0,.int .i64 0,.int .i64 0,.int .i64 0] 118)=w5;have b5:=zb hw5;have kX:=zk hw5;have o5:=zm o4 b5;have wn5:=wn4.made b5;obtain ⟨e0,e1,e2,e3,e4,e5,e6,e7⟩:=zcd kX;clear o4 wn4 b5;(go_upto_region 9 with fail);clear e0 e1 e2 e3 e4 e5 e6 e7 hw5;have HCS:Hid (#[Value.bool false,.int .i64 K,.bool false,.int .i64 0,.int .i64 0,.int .i64 0,.int .i64 0,.int .i64 0].toList=ptF.cs ⟨false,K,false,⟨0,0,0,0,0⟩⟩):=hide rfl;obtain ⟨d0,d1,d2,d3,d4,d5,d6,d7⟩:=zcd kX;have o9:=zm o5 (zh w5 (.cells #[.bool false,.int .i64 K,.bool false,.int .i64 0,.int .i64 0,.int .i64 0,.int .i64 0,.int .i64 0] 118));have hbase9:w.heap.size≤(w5.alloc (.cells #[.bool false,.int .i64 K,.bool false,.int .i64 0,.int .i64 0,.int .i64 0,.int .i64 0,.int .i64 0] 118)).heap.size:=by have:=wn5.grown.size; simp; omega
    have HW9:Hid (Went w (w5.alloc (.cells #[.bool false,.int .i64 K,.bool false,.int .i64 0,.int .i64 0,.int .i64 0,.int .i64 0,.int .i64 0] 118)) C a0 l0 c0 z0):=hide (wn5.made (zh w5 _));go_wp2_with (at_builtin; refine zc3 _ rfl _ _ rfl w.heap.size _ k l rfl o9 _ 1 1 [⟨false,K,false,⟨0,0,0,0,0⟩⟩] rfl (zaA ptF _ _ _ _ HCS.out) (by omega) hbase9 ?_)
    rintro ao' cap' wz oz - gz bz;have HO:=hide oz;have HWZ:=hide (HW9.out.madeAt bz hlt (Nat.le_refl _));have HLN:Hid ((l++[(⟨false,K,false,⟨0,0,0,0,0⟩⟩:PT)]).length=k+1):=hide (by simp [HL.out]);have HAN:Hid (∀y∈l++[(⟨false,K,false,⟨0,0,0,0,0⟩⟩:PT)],ptOk y=true):=hide (by
     intro y hy;rcases List.mem_append.1 hy with hy | hy
     ·exact HA.out y hy
     ·have e:y=_:=List.mem_singleton.1 hy;subst e;unfold ptOk
      simp only
      rw [HK.out]
      rfl)
    clear oz gz bz o9 hbase9 d0 d1 d2 d3 d4 d5 d6 d7;go_wp2
    go_roundw
    case rel=>exact ⟨k+1,ao',cap',_,by omega,by go_num,rfl,HLN.out,HAN.out,HO.out,HWZ.out⟩
    case measure=>simp [intOf]; omega
  ·have hkm:k=m:=by omega
   subst hkm;go_wp2;go_ret;exact ⟨ao,cap,l,rfl,HL.out,HA.out,o2,wn2⟩

theorem GRow.take {α:Type} {F:Flat α} {w:World} {ao:Option Addr} {n c k:Nat} {l:List α} (h:GRow F w ao n c l) (hk:k≤n):GRow F w ao k c (l.take k) where
 size:=by have:=h.size; simp; omega
 le:=Nat.le_trans hk h.le
 top:=h.top
 nil:=h.nil
 cell:=by
  rcases h.cell with h0 | ⟨b,off,ha,hc⟩
  ·exact .inl (by omega)
  ·refine .inr ⟨b,off,ha,fun i x hi j v hv=>hc i x ?_ j v hv⟩;rw [List.getElem?_take] at hi
   split at hi
   ·exact hi
   ·cases hi

def zeX (N:Nat):Value→Bool
 | .string S=>decide (S.size≤N)
 | _=>false
def strOk (v:Value):Bool:=zeX 30 v

theorem zgX {N:Nat} {v:Value} (h:zeX N v=true):∃S:ByteArray,v=.string S∧S.size≤N:=by
 cases v with
 | string S=>exact ⟨S,rfl,of_decide_eq_true h⟩
 | _=>cases h

theorem zgR (N:Nat) (C:Nat) (a0:Option Addr) (l0 c0:Nat) (z0:List Int) (cs:Array Value) (B n:Nat) (w:World) (hc:Cur w C a0 l0 c0 z0) (hB:B=w.heap.size) (hn:cs.size=n) (hall:cs.all (zeX N)=true) (hn0:0 < n) (hn1:n≤1000) :
  Calls Tryz.prog 65 #[.pointer (some ⟨C,0,none⟩),.slice (some ⟨B,0,none⟩) n n] (w.alloc (.cells cs 9)) fun e w'=>∃S:ByteArray,S.size≤N∧e=.returned (.string S)∧Went w w' C a0 l0 c0 z0:=by
 subst hB;have hb:Below w.heap.size w (w.alloc (.cells cs 9)):=(Below.refl _ _).alloc (Nat.le_refl _) _;have hst:=Went.start hc hb;have hlt:=hc.lt;have hcell:∀j,j < n→∃S:ByteArray,(w.alloc (.cells cs 9)).cell? ⟨w.heap.size,j,none⟩=some (.string S)∧S.size≤N:=by
  intro j hj;have hj':j < cs.size:=by omega
  have h1:zeX N cs[j]=true:=(Array.all_eq_true.1 hall) j hj';obtain ⟨S,e,hS⟩:=zgX h1;refine ⟨S, ?_,hS⟩
  have:(w.alloc (.cells cs 9)).cell? ⟨w.heap.size,j,none⟩=cs[j]?:=by simp
  rw [this,Array.getElem?_eq_getElem hj',e]
 have HC:=hide hcell;clear hcell hall;generalize w.alloc (.cells cs 9)=w1 at *;go_enter Tryz.func65,Tryz.ntmps65;go_wp2_with fail
 refine (zz C a0 l0 c0 z0 n _ hst.cur (by omega)).mono ?_;rintro e w2 ⟨x,rfl,hx0,hx1,hx2,went⟩;have hx1:=hx1 (by omega);obtain ⟨j,rfl⟩:∃j:Nat,x=j:=⟨x.toNat,by omega⟩;obtain ⟨S,hS,hSs⟩:=HC.out j (by omega);have cx:w2.cell? ⟨w.heap.size,j,none⟩=some (.string S):=went.grown.cell hS (by intro e; simp at e; omega);clear hS;go_wp2;go_ret;exact ⟨S,hSs,rfl,hst.trans went⟩

theorem ziR {e:FE} (h:entOk e=true):e.Rng:=by
 rw [ze3] at h;exact ⟨by omega,by omega,by omega,by omega⟩

theorem Went.ownI {a b:World} {C:Nat} {a0:Option Addr} {l0 c0:Nat} {z0:List Int} (h:Went a b C a0 l0 c0 z0) {base:Nat} {v:Value} {n:Nat} {xs:List Value} (ho:a.ownsRow base 3 1 v n xs) (hC:C < base):b.ownsRow base 3 1 v n xs :=
 zc2 ho h.grown (by intro k hk; cases hk; exact hC)

def OkNs (zs:List Int):Prop:=∀z∈zs,0≤z∧z≤100000

theorem OkNs.i64 {zs:List Int} (h:OkNs zs):I64s zs:=fun z hz=>by have:=h z hz; omega
theorem OkNs.snoc {zs:List Int} {x:Int} (h:OkNs zs) (hx:0≤x∧x≤100000):OkNs (zs++[x]):=by
 intro z hz;rcases List.mem_append.1 hz with h1 | h1
 ·exact h z h1
 ·simp at h1; rw [h1]; exact hx

def zi3 (w w':World) (C:Nat) (a0:Option Addr) (l0 c0:Nat) (z0:List Int) (lo hi:Nat) (p:List Int→Prop) (e:Ending):Prop :=
 ∃ao n cap zs,e=.returned (.slice ao n cap)∧lo≤n∧n≤hi∧zs.length=n∧p zs∧w'.ownsRow w.heap.size 3 1 (.slice ao n cap) n (cI zs)∧Went w w' C a0 l0 c0 z0

theorem zd3 (C:Nat) (a0:Option Addr) (l0 c0:Nat) (z0:List Int) (w:World) (hc:Cur w C a0 l0 c0 z0) :
  Calls Tryz.prog 73 #[.pointer (some ⟨C,0,none⟩)] w fun e w'=>zi3 w w' C a0 l0 c0 z0 1 6 OkNs e:=by
 have hlt:=hc.lt;have hst:=Went.start hc ((Below.refl w.heap.size w).alloc (Nat.le_refl _) (.cells #[] 3));have hown0:(w.alloc (.cells #[] 3)).ownsRow w.heap.size 3 1 (.slice (some ⟨w.heap.size,0,none⟩) 0 0) 0 (cI []):=World.ownsRow_lit w #[] 0 (Nat.le_refl _) (Nat.zero_le _) rfl;go_enter Tryz.func73,Tryz.ntmps73;go_wp2_with fail
 refine (zz C a0 l0 c0 z0 6 _ hst.cur (by omega)).mono ?_;rintro e w1 ⟨x,rfl,hx0,hx1,hx2,went1⟩;have hx6:=hx1 (by omega);obtain ⟨m,rfl⟩:∃m:Nat,x=m:=⟨x.toNat,by omega⟩;have how1:=went1.ownI hown0 hlt;have wn1:=hst.trans went1;clear hx1 hx2 hown0 hst went1;go_wp2
 go_loopw [3,4] (fun v i wr=>∃(k j:Nat) (zs:List Int) (ao:Option Addr) (cap:Nat),k+j=1+m∧i=.int .i64 j∧v=.slice ao k cap∧zs.length=k∧OkNs zs∧wr.ownsRow w.heap.size 3 1 (.slice ao k cap) k (cI zs)∧Went w wr C a0 l0 c0 z0) (fun _ i _=>(intOf i).toNat)
 case atStart=>exact ⟨0,1+m,[],_,_,by omega,by simp,rfl,rfl,(by intro z hz; cases hz),how1,wn1⟩
 case round =>
  obtain ⟨k,j,zs,ao,cap,hk,rfl,rfl,hz,hok,how,went⟩:=hrel;clear how1 wn1;by_cases hj:0 < j
  ·(go_wp2_with fail);refine (zbj C a0 l0 c0 z0 [0,1,2,3,127,128,16384,100000] _ _ wr went.cur rfl rfl (by simp) (by simp)).mono ?_;rintro e w2 ⟨y,hy,rfl,went2⟩;have hy':0≤y∧y≤100000:=by simp at hy; omega
   clear hy;have how2:=went2.ownI how hlt;have wn2:=went.trans went2;have hs2:=wn2.grown.size;clear how went went2;go_wp2_with (at_builtin; refine zc9 _ rfl _ _ 27 rfl w.heap.size Tryz.underlying27 Tryz.infoI64 _ k zs rfl (how2.alloc _) hok.i64 _ 1 1 [y] rfl (zie w2 y (by omega)) (by omega) (by simp; omega) ?_)
   intro ao3 cp3 w3 how3 row3 hb3;have wn3:Went w w3 C a0 l0 c0 z0:=(wn2.made ((Below.refl _ _).alloc (Nat.le_refl _) _)).madeAt hb3 hlt (Nat.le_refl _);clear how2 hb3 row3;go_wp2
   go_roundw
   case rel=>exact ⟨k+1,j - 1,zs++[y],ao3,cp3,by omega,by go_num,rfl,by simp; omega,hok.snoc hy',how3,wn3⟩
   case measure=>simp [intOf]; omega
  ·have hj0:¬(0:Int) < j:=by omega
   go_wp2;go_ret;exact ⟨ao,k,cap,zs,rfl,by omega,by omega,hz,hok,how,went⟩

theorem IRow.belowAt {w3 w w':World} {ao:Option Addr} {len cap:Nat} {zs:List Int} (h:IRow w ao len cap zs) (h3:IRow w3 ao len cap zs) (hb:Below w3.heap.size w w'):IRow w' ao len cap zs where
 size:=h.size
 le:=h.le
 top:=h.top
 nil:=h.nil
 byte:=h.byte
 cell:=by
  rcases h.cell with h0 | ⟨b,off,ha,hc⟩
  ·exact .inl h0
  ·refine .inr ⟨b,off,ha,fun i hi => ?_⟩;rcases h3.cell with h0 | ⟨b',off',ha',hc'⟩
   ·omega
   ·rw [ha] at ha';cases ha';have h1:b < w3.heap.size:=zp (hc' i hi);rw [hb.cell (p:=⟨b,off+i,none⟩) h1];exact hc i hi

def byB (zs:List Int):ByteArray:=⟨(zs.map fun z=>UInt8.ofNat z.toNat).toArray⟩

theorem zgi (zs:List Int):(byB zs).size=zs.length:=by
 show (zs.map fun z=>UInt8.ofNat z.toNat).toArray.size=_
 rw [List.size_toArray,List.length_map]

theorem zg8 {z:Int} (h:0≤z∧z≤255):((UInt8.ofNat z.toNat).toNat:Int)=z:=by
 rw [UInt8.toNat_ofNat'];omega

theorem zhZ (dst:TypeId) (w:World) (ao:Option Addr) (l c:Nat) (zs:List Int) (h:Row w ao l c zs) (hd:Tryz.prog.underlying dst=some .string):(convert 22 dst (.slice ao l c)).run Tryz.prog w=.ok (.string (byB zs)) w:=by
 have hl:(zs.map fun z=>UInt8.ofNat z.toNat).length=l:=by rw [List.length_map]; exact h.size
 rcases ao with _ | a
 ·obtain ⟨rfl,rfl⟩:=h.none_zero rfl;have hz:zs=[]:=List.eq_nil_of_length_eq_zero h.size;subst hz;rw [run_convert_bytes_string w 22 dst 5 none 0 0 Tryz.underlying22 Tryz.underlying5 hd]
  rfl
 ·have:=run_convert_bytes_back (P:=Tryz.prog) w 22 dst 5 a c (zs.map fun z=>UInt8.ofNat z.toNat) Tryz.underlying22 Tryz.underlying5 hd (by
   intro j hj;have hj':j < zs.length:=by simpa using hj
   rw [h.news a rfl j _ (ziK zs j hj')];have hb:=ze9 h.byte j;have e:(zs.map fun z=>UInt8.ofNat z.toNat)[j]=UInt8.ofNat (zs.getD j 0).toNat:=by simp [List.getD_eq_getElem?_getD,hj']
   rw [e,zg8 hb])
  rw [hl] at this;exact this

def mtF:Nat→Nat→ByteArray→ByteArray
 | 0,_,out=>out
 | f+1,k,out=>if k=0 then out else mtF f (k / 10) (byB [((48+k % 10:Nat):Int)]++out)
def mtx (k:Int):ByteArray:=⟨#[109]⟩++mtF 20 k.toNat ⟨#[]⟩

theorem zii (f:Nat) (out:ByteArray):mtF f 0 out=out:=by cases f <;> simp [mtF]

structure MT (k:Int) (m:Nat) (out:ByteArray):Prop where
 f:∃f,mtF f m out=mtF 20 k.toNat ⟨#[]⟩∧m < 10 ^ f∧out.size+f≤20

theorem MT.next {k:Int} {m:Nat} {out:ByteArray} (h:MT k m out) (hm:0 < m):MT k (m / 10) (byB [((48+m % 10:Nat):Int)]++out):=by
 obtain ⟨f,h1,h2,h3⟩:=h.f;cases f with
 | zero=>simp at h2; omega
 | succ f =>
  refine ⟨f, ?_, ?_, ?_⟩
  ·rw [← h1]
   conv=>rhs; unfold mtF
   rw [if_neg (by omega)]
  ·rw [Nat.pow_succ] at h2; omega
  ·rw [ByteArray.size_append,zgi]; simp; omega
theorem MT.done {k:Int} {out:ByteArray} (h:MT k 0 out):⟨#[109]⟩++out=mtx k:=by
 obtain ⟨f,h1,-,-⟩:=h.f;rw [zii] at h1;unfold mtx;rw [h1]
theorem MT.small {k:Int} {m:Nat} {out:ByteArray} (h:MT k m out):out.size≤20:=by
 obtain ⟨f,-,-,h3⟩:=h.f; omega

theorem zdk (k:Int) (w:World) (h0:0 < k) (h1:k≤1099511627776) :
  Calls Tryz.prog 59 #[.int .i64 k] w fun e w'=>e=.returned (.string (mtx k))∧(mtx k).size≤21∧Below w.heap.size w w':=by
 have hstart:MT k k.toNat ⟨#[]⟩:=⟨20,rfl,by omega,by simp [ByteArray.size]⟩;have hk0:¬k≤0:=by omega
 go_enter Tryz.func59,Tryz.ntmps59;go_wp2
 go_loopw [0,3] (fun x s wr=>∃(m:Nat) (out:ByteArray),x=.int .i64 m∧s=.string out∧(m:Int)≤k∧MT k m out∧Below w.heap.size w wr) (fun x _ _=>(intOf x).toNat)
 case atStart=>exact ⟨k.toNat,⟨#[]⟩,by rw [Int.toNat_of_nonneg (by omega)],rfl,by omega,hstart,Below.refl _ _⟩
 case round =>
  obtain ⟨m,out,rfl,rfl,hmk,hmt,hb⟩:=hrel;have hsm:=hmt.small;by_cases hm:0 < m
  ·have hnx:=hmt.next hm;have hw0:(m:Int).tdiv 10=((m / 10:Nat):Int):=by rw [Int.tdiv_eq_ediv_of_nonneg (by omega)]; omega
   have hw1:(m:Int).tmod 10=((m % 10:Nat):Int):=by rw [Int.tmod_eq_emod_of_nonneg (by omega)]; omega
   have hd:m % 10 < 10:=Nat.mod_lt _ (by omega);have hcv:=zhZ 9 (wr.alloc (.cells #[.int .u8 ((48+m % 10:Nat):Int)] 5)) (some ⟨wr.heap.size,0,none⟩) 1 1 [((48+m % 10:Nat):Int)] (zi1 wr _ (by omega)) Tryz.underlying9;have hbs:(byB [((48+m % 10:Nat):Int)]).size=1:=zgi _;have HB:=hide (hb.trans ((zh wr (.cells #[.int .u8 ((48+m % 10:Nat):Int)] 5)).mono hb.size));have HN:=hide hnx;clear hb hnx hstart hmt;generalize hD:((48+m % 10:Nat):Int)=D at *;have hD':48+((m % 10:Nat):Int)=D:=by rw [← hD]; omega
   generalize ((m % 10:Nat):Int)=r at *;generalize hq:m / 10=q at *;go_wp2
   go_roundw
   case rel=>exact ⟨q,_,rfl,rfl,by omega,HN.out,HB.out⟩
   case measure=>simp [intOf]; omega
  ·have hm0:m=0:=by omega
   subst hm0;have HD:=hide hmt.done;have hsz:(ByteArray.mk #[109]++out).size≤21:=by rw [ByteArray.size_append]; have:(ByteArray.mk #[109]).size=1:=rfl; omega
   have HS:=hide hsz;clear hsz hmt;go_wp2;go_ret;exact ⟨by rw [← HD.out]; rfl,by rw [← HD.out]; exact HS.out,hb⟩

def zdW (k:Int) (x:BI):BI:=⟨x.oa,x.on,x.oc,zaw k x.on,k+x.on,k+x.on+1,mtx (k+x.on+1+1),x.za,x.zn,x.zc,zaw (k+x.on+1+1+1) x.zn⟩
def endB (k:Int) (x:BI):Int:=k+x.on+1+1+1+x.zn
def zbr:Int→List BI→List BI
 | _,[]=>[]
 | k,x::r=>zdW k x::zbr (endB k x) r
def endBs:Int→List BI→Int
 | k,[]=>k
 | k,x::r=>endBs (endB k x) r

theorem zfS (a:List BI) (x:BI):∀k,zbr k (a++[x])=zbr k a++[zdW (endBs k a) x]:=by
 induction a with
 | nil=>intro k; rfl
 | cons y r ih=>intro k; simp only [List.cons_append,zbr,endBs,ih]
theorem zeo (a:List BI) (x:BI):∀k,endBs k (a++[x])=endB (endBs k a) x:=by
 induction a with
 | nil=>intro k; rfl
 | cons y r ih=>intro k; simp only [List.cons_append,endBs,ih]
theorem zcX (a:List BI):∀k,(zbr k a).length=a.length:=by
 induction a with
 | nil=>intro k; rfl
 | cons y r ih=>intro k; simp only [zbr,List.length_cons,ih]
theorem zcQ (a:List BI):∀k,k≤endBs k a∧endBs k a≤k+bulk a+3*a.length:=by
 induction a with
 | nil=>intro k; simp [endBs,bulk]
 | cons y r ih =>
  intro k
  have:=ih (endB k y)
  rw [zdH];unfold endBs;unfold endB at *;unfold BI.wt;simp only [List.length_cons];omega

theorem zfj (k:Int) (n:Nat) (h0:0≤k) (h1:k≤1099511627776) (hn:n≤16777216):I64s (zaw k n):=zb5 k n h0 h1 hn

theorem zdX (base:Nat) (ao:Option Addr) (n cap:Nat) (l:List BI) (k:Int) (w:World) (hown:BOwns w base ao n cap l) (hs:n+bulk l≤1048576) (hk0:0 < k) (hk1:k≤1000) :
  Calls Tryz.prog 20 #[.slice ao n cap,.int .i64 k] w fun e w'=>e=.returned (.int .i64 (endBs k l))∧BOwns w' base ao n cap (zbr k l)∧Only (allBi ao l) w w':=by
 have hl:=hown.size;have hend:=zcQ l k;go_enter Tryz.func20,Tryz.ntmps20;go_wp2
 go_loopw [1,5] (fun m i wr=>∃j:Nat,j≤n∧i=.int .i64 j∧m=.int .i64 (endBs k (l.take j))∧BOwns wr base ao n cap (zbr k (l.take j)++l.drop j)∧Only (allBi ao l) w wr) (fun _ i _=>n - (intOf i).toNat)
 case atStart=>exact ⟨0,Nat.zero_le _,rfl,rfl,by simpa [zbr] using hown,Only.refl _ _⟩
 case round =>
  obtain ⟨j,hj,rfl,rfl,hbo,hon⟩:=hrel;by_cases hlt:j < n
  ·have hx:l[j]?=some l[j]:=List.getElem?_eq_getElem (by omega);generalize l[j]=x at hx;have hw:=zgh (List.mem_of_getElem? hx);unfold BI.wt at hw;have hej:=zcQ (l.take j) k;have hbj:=ze1 l j;have hlj:(l.take j).length≤n:=by rw [List.length_take]; omega
   have hdr:l.drop j=x::l.drop (j+1):=by
    obtain ⟨h,rfl⟩:=List.getElem?_eq_some_iff.1 hx;exact List.drop_eq_getElem_cons h
   have hmx:x∈l:=List.mem_of_getElem? hx;have EQ1:=hide (show zbr k (l.take (j+1))=zbr k (l.take j)++[zdW (endBs k (l.take j)) x] by rw [zc6 hx,zfS]);have EQ2:=hide (show endBs k (l.take (j+1))=endB (endBs k (l.take j)) x by rw [zc6 hx,zeo]);rw [hdr] at hbo;have hpl:(zbr k (l.take j)).length=j:=by rw [zcX,List.length_take]; omega
   generalize endBs k (l.take j)=K0 at *;generalize zbr k (l.take j)=pre at *;generalize hpo:l.drop (j+1)=post at *;have HPO:=hide hpo;clear hpo;subst hpl;have I:=hbo.item x (by simp);obtain ⟨g,hg,⟨a0,a1,a2,a3,a4⟩,-,fz⟩:=hbo.at;subst hg;have hsub:∀b,b∈x.blks∨b=g→b∈allBi (some ⟨g,0,none⟩) l:=by
    intro b hb;rcases hb with hb | rfl
    ·exact List.mem_append_right _ (List.mem_flatMap.2 ⟨x,hmx,hb⟩)
    ·exact List.mem_append_left _ (by simp [blkL])
   have HSUB:=hide hsub;have HBO:=hide hbo;have HON:=hide hon;have IO:=hide I.o;clear hbo hon hsub hdr hx hmx I fz hown;(go_wp2_with fail);refine (za0 base x.oa x.on x.oc x.o K0 _ IO.out (by omega) (by omega) (by omega)).mono ?_;rintro e w1 ⟨rfl,ho1,hg1⟩;have B1:=HBO.out.setO hg1 ho1 (zfj _ _ (by omega) (by omega) (by omega));have O1:Only (allBi (some ⟨g,0,none⟩) l) w w1:=HON.out.trans ((Only.of_grown hg1).wider (fun b hb=>HSUB.out b (.inl (List.mem_append_left _ hb))));clear a0 a1 a2 a3 a4 ho1 hg1;obtain ⟨g',hg',⟨a0,a1,a2,a3,a4⟩,-,fz⟩:=B1.at;cases hg';have f1:=fz (pre.length*5+1);have f2:=fz (pre.length*5+2);have B2:=(B1.setK (K0+x.on)).setN (K0+x.on+1);have O2:Only (allBi (some ⟨g,0,none⟩) l) w _:=(O1.trans ((Only.set w1 g (pre.length*5+1) (.int .i64 (K0+x.on))).wider (fun b hb=>HSUB.out b (.inr (by simpa using hb))))).trans ((Only.set _ g (pre.length*5+2) (.int .i64 (K0+x.on+1))).wider (fun b hb=>HSUB.out b (.inr (by simpa using hb))));have HB2:=hide B2;have HO2:=hide O2;clear B1 B2 O1 O2 fz HBO HON IO;(go_wp2_with fail);refine (zdk (K0+x.on+1+1) _ (by omega) (by omega)).mono ?_;rintro e w3 ⟨rfl,hms,hb3⟩;have B3:=HB2.out.below hb3;have O3:=HO2.out.trans (Only.of_below hb3);clear a0 a1 a2 a3 a4 hb3 HB2 HO2 f1 f2;obtain ⟨g',hg',⟨a0,a1,a2,a3,a4⟩,-,fz⟩:=B3.at;cases hg';have f3:=fz (pre.length*5+3);have B4:=B3.setS (mtx (K0+x.on+1+1)) (by unfold maxLen; omega);have O4:=O3.trans ((Only.set w3 g (pre.length*5+3) (.string (mtx (K0+x.on+1+1)))).wider (fun b hb=>HSUB.out b (.inr (by simpa using hb))));have IZ:=hide (B4.item _ (List.mem_append_right _ (List.mem_cons_self ..))).z;have HB4:=hide B4;have HO4:=hide O4;clear B3 B4 O3 O4 fz;(go_wp2_with fail);refine (za0 base x.za x.zn x.zc x.z (K0+x.on+1+1+1) _ IZ.out (by omega) (by omega) (by omega)).mono ?_;rintro e w5 ⟨rfl,ho5,hg5⟩;have HB5:=hide (HB4.out.setZ hg5 ho5 (zfj _ _ (by omega) (by omega) (by omega)));have HO5:=hide (HO4.out.trans ((Only.of_grown hg5).wider (fun b hb=>HSUB.out b (.inl (List.mem_append_right _ hb)))));clear a0 a1 a2 a3 a4 f3 ho5 hg5 IZ HB4 HO4;go_wp2
   go_roundw
   case rel =>
    refine ⟨pre.length+1,by omega,by go_num, ?_, ?_,HO5.out⟩
    ·rw [EQ2.out]; unfold endB; rfl
    ·rw [EQ1.out,List.append_assoc,HPO.out];exact HB5.out
   case measure=>simp [intOf]; omega
  ·have hj':j=n:=by omega
   subst hj';rw [List.take_of_length_le (by omega),List.drop_of_length_le (by omega),List.append_nil] at hbo;rw [List.take_of_length_le (by omega)];go_wp2;go_ret;exact ⟨rfl,hbo,hon⟩

theorem zet:∀(l:List BI) (k:Int) (j:Nat) (x:BI),l[j]?=some x→(zbr k l)[j]?=some (zdW (endBs k (l.take j)) x)
 | [],_,j,_,h=>by simp at h
 | y::r,k,0,x,h=>by
  simp at h
  subst h
  rfl
 | y::r,k,j+1,x,h=>by
  have:=zet r (endB k y) j x (by simpa using h)
  simpa [zbr,endBs] using this

theorem zcS (ao:Option Addr) (n cap:Nat) (l:List BI) (k:Int) (w:World) (hr:BRow w ao n cap (zbr k l)) (hs:n+bulk l≤1048576) (hk0:0 < k) (hk1:k≤1000) :
  Calls Tryz.prog 21 #[.slice ao n cap,.int .i64 k] w fun e w'=>e=.returned (.int .i64 (endBs k l))∧Below w.heap.size w w':=by
 have hl:=hr.size;rw [zcX] at hl;have hend:=zcQ l k;go_enter Tryz.func21,Tryz.ntmps21;go_wp2
 go_loopw [1,5] (fun m i wr=>∃j:Nat,j≤n∧i=.int .i64 j∧m=.int .i64 (endBs k (l.take j))∧Below w.heap.size w wr) (fun _ i _=>n - (intOf i).toNat)
 case atStart=>exact ⟨0,Nat.zero_le _,rfl,rfl,Below.refl _ _⟩
 case round =>
  obtain ⟨j,hj,rfl,rfl,hb⟩:=hrel;by_cases hlt:j < n
  ·have hx:l[j]?=some l[j]:=List.getElem?_eq_getElem (by omega);generalize l[j]=x at hx;have hw:=zgh (List.mem_of_getElem? hx);unfold BI.wt at hw;have hej:=zcQ (l.take j) k;have hbj:=ze1 l j;have hlj:(l.take j).length≤n:=by rw [List.length_take]; omega
   obtain ⟨y,b,off,hy,rfl,hat,hin⟩:=(hr.below hb).at j hlt;rw [zet l k j x hx] at hy;cases hy;have EQ2:=hide (show endBs k (l.take (j+1))=endB (endBs k (l.take j)) x by rw [zc6 hx,zeo]);generalize endBs k (l.take j)=K0 at *;have CX:Hid (∀W,Below wr.heap.size wr W→(zdW K0 x).At W b (off+j*5)):=fun W h=>hat.below h
   unfold BI.At zdW at CX;unfold BI.At zdW at hat;have h1:IRow wr x.oa x.on x.oc (zaw K0 x.on):=hin.o;have h2:IRow wr x.za x.zn x.zc (zaw (K0+x.on+1+1+1) x.zn):=hin.z;have HB:=hide hb;clear hb hx hin
   simp only at CX hat
   obtain ⟨a0,a1,a2,a3,a4⟩:=hat;(go_wp2_with fail);refine (zcT x.oa x.on x.oc K0 _ h1 (by omega) (by omega) (by omega)).mono ?_;rintro e w1 ⟨rfl,rfl⟩;(go_wp2_with fail)
   go_region_held3 (fun W=>W.cell? ⟨b,off+j*5+3,none⟩=some (.string (mtx (K0+x.on+1+1)))) (first | exact (CX.out _ u2).2.2.2.1 | go_keep) (first
    | (go_at_call 59; refine (zdk (K0+x.on+1+1) _ (by omega) (by omega)).mono ?_; rintro e w2 ⟨rfl,hms,hb2⟩; have u2:=undrew hb2))
   clear a0 a1 a2 a3 a4 hb2;obtain ⟨a0,a1,a2,a3,a4⟩:=CX.out _ u2;(go_wp2_with fail);refine (zcT x.za x.zn x.zc (K0+x.on+1+1+1) _ (h2.below u2) (by omega) (by omega) (by omega)).mono ?_;rintro e w3 ⟨rfl,rfl⟩;have HB2:=hide (HB.out.trans (u2.mono HB.out.size));clear a0 a1 a2 a3 a4 u2 h1 h2 CX;go_wp2
   go_roundw
   case rel =>
    refine ⟨j+1,by omega,by go_num, ?_,HB2.out⟩;rw [EQ2.out]; unfold endB; rfl
   case measure=>simp [intOf]; omega
  ·have hj':j=n:=by omega
   subst hj';rw [List.take_of_length_le (by omega)];go_wp2;go_ret;exact ⟨rfl,hb⟩

theorem zbY (x y:BI) (hd:x.d=y.d) (w:World) (hx:x.In w) (hy:y.In w) :
  Calls Tryz.prog 31 #[.agg #[.slice x.oa x.on x.oc,.int .i64 x.K,.int .i64 x.N,.string x.S,.slice x.za x.zn x.zc],.agg #[.slice y.oa y.on y.oc,.int .i64 y.K,.int .i64 y.N,.string y.S,.slice y.za y.zn y.zc]] w fun e w' =>
   e=.returned (.bool true)∧Below w.heap.size w w':=by
 obtain ⟨oa,on,oc,o,K,N,S,za,zn,zc,z⟩:=x;obtain ⟨oa',on',oc',o',K',N',S',za',zn',zc',z'⟩:=y;simp only [BI.d,BD.mk.injEq] at hd;obtain ⟨rfl,rfl,rfl,rfl,rfl⟩:=hd;obtain ⟨h1,h2,-⟩:=hx;obtain ⟨h3,h4,-⟩:=hy
 simp only at h1 h2 h3 h4 ⊢
 go_enter Tryz.func31,Tryz.ntmps31;go_wp2_with fail
 refine (zdA oa on oc oa' on' oc' o _ (h1.below (zA _ _ _)) (h3.below (zA _ _ _))).mono ?_;rintro e w1 ⟨rfl,m,rfl⟩;go_wp2_with fail
 refine (zcu K N S za zn zc za' zn' zc' z _ (h2.below (zV (zA _ _ _) m)) (h4.below (zV (zA _ _ _) m))).mono ?_;rintro e w2 ⟨rfl,hb⟩;go_wp2;go_ret;exact ⟨rfl,(zV (zA w _ _) m).trans (hb.mono (by have:=(zA w (.cells #[.slice oa on oc,.int .i64 K,.int .i64 N,.string S,.slice za zn zc] 37) (.cells #[.slice oa' on' oc',.int .i64 K,.int .i64 N,.string S,.slice za' zn' zc'] 37)).size; exact this))⟩

theorem zjh {a b:List BI} (h:a.map BI.d=b.map BI.d) {i:Nat} {x y:BI} (hx:a[i]?=some x) (hy:b[i]?=some y):x.d=y.d:=by
 have h1:(a.map BI.d)[i]?=some x.d:=by rw [List.getElem?_map,hx]; rfl
 rw [h,List.getElem?_map,hy] at h1;exact (Option.some.inj h1).symm

theorem zck (ao:Option Addr) (n c:Nat) (l:List BI) (ao':Option Addr) (n' c':Nat) (l':List BI) (hd:l.map BI.d=l'.map BI.d) (w:World) (hl:BRow w ao n c l) (hl':BRow w ao' n' c' l') :
  Calls Tryz.prog 17 #[.slice ao n c,.slice ao' n' c'] w fun e w'=>e=.returned (.bool true)∧Below w.heap.size w w':=by
 have hs:=hl.size;have hs':=hl'.size;have htop:=Nat.le_trans hl.le hl.top;unfold maxLen at htop;have hnn:n'=n:=by rw [← hs,← hs']; simpa using (congrArg List.length hd).symm
 subst hnn;go_enter Tryz.func17,Tryz.ntmps17;go_wp2
 go_loopw [5] (fun i wr=>∃k:Nat,k≤n'∧i=.int .i64 k∧Below w.heap.size w wr) (fun i _=>n' - (intOf i).toNat)
 case atStart=>exact ⟨0,Nat.zero_le _,rfl,Below.refl _ _⟩
 case round =>
  obtain ⟨k,hk,rfl,hb⟩:=hrel;by_cases hlt:k < n'
  ·obtain ⟨x,b,off,hx,rfl,hat,hin⟩:=(hl.below hb).at k hlt;obtain ⟨y,b',off',hy,rfl,hat',hin'⟩:=(hl'.below hb).at k hlt;have hxy:=zjh hd hx hy;have CX:Hid (∀W,Below wr.heap.size wr W→x.At W b (off+k*5)∧y.At W b' (off'+k*5)):=fun W h=>⟨hat.below h,hat'.below h⟩
   have HB:=hide hb;clear hx hy hb;unfold BI.At at CX;obtain ⟨a0,a1,a2,a3,a4⟩:=hat;obtain ⟨e0,e1,e2,e3,e4⟩:=hat';(go_wp2_with fail)
   go_region_held3 (fun W=>(W.cell? ⟨b,off+k*5,none⟩=some (.slice x.oa x.on x.oc)∧W.cell? ⟨b,off+k*5+1,none⟩=some (.int .i64 x.K)∧W.cell? ⟨b,off+k*5+2,none⟩=some (.int .i64 x.N)∧W.cell? ⟨b,off+k*5+3,none⟩=some (.string x.S)∧W.cell? ⟨b,off+k*5+4,none⟩=some (.slice x.za x.zn x.zc))∧(W.cell? ⟨b',off'+k*5,none⟩=some (.slice y.oa y.on y.oc)∧W.cell? ⟨b',off'+k*5+1,none⟩=some (.int .i64 y.K)∧W.cell? ⟨b',off'+k*5+2,none⟩=some (.int .i64 y.N)∧W.cell? ⟨b',off'+k*5+3,none⟩=some (.string y.S)∧W.cell? ⟨b',off'+k*5+4,none⟩=some (.slice y.za y.zn y.zc))) (first | exact CX.out _ u1 | go_keep) (first
    | (go_at_call 31; refine (zbY x y hxy _ (hin.below (zV (Below.refl _ _) _)) (hin'.below (zV (Below.refl _ _) _))).mono ?_; rintro e w1 ⟨rfl,hb1⟩; have u1:=undrew hb1))
   have b1:=HB.out.trans (u1.mono HB.out.size);clear u1 hb1 a0 a1 a2 a3 a4 e0 e1 e2 e3 e4;go_wp2
   go_roundw
   case rel=>exact ⟨k+1,by omega,by go_num,b1⟩
   case measure=>simp [intOf]; omega
  ·have hk':k=n':=by omega
   subst hk';go_wp2;go_ret;exact ⟨rfl,hb⟩

theorem zgb (e:VR) (w:World) :
  Calls Tryz.prog 140 #[.agg #[.int .i64 e.i,.int .i64 e.m,.int .i64 e.b]] w fun r w'=>r=.returned (.agg #[.int .i64 e.i,.int .i64 e.m,.int .i64 e.b])∧Below w.heap.size w w':=by
 go_enter Tryz.func140,Tryz.ntmps140;go_wp2;exact bodyPost_ret (v:=.agg #[.int .i64 e.i,.int .i64 e.m,.int .i64 e.b]) (by simp [results,Tryz.results140,go_sem, *]) rfl ⟨rfl,zaz _ _ _ _⟩

theorem zhO:(Tryz.prog.info? 82).map (fun i=>(i.zero,i.size,i.bytes))=some (some (.agg #[.int .i64 0,.int .i64 0,.int .i64 0]),3,24):=by kernel_rfl

def VR.zero:VR:=⟨0,0,0⟩

theorem at3h {w w':World} {b off n cap:Nat} {l:List VR} (h:GRow vrowF w (some ⟨b,off,none⟩) n cap l) (hb:Below w.heap.size w w') {i:Nat} {x:VR} (hx:l[i]?=some x) :
  w'.cell? ⟨b,off+i*3,none⟩=some (.int .i64 x.i)∧w'.cell? ⟨b,off+i*3+1,none⟩=some (.int .i64 x.m)∧w'.cell? ⟨b,off+i*3+2,none⟩=some (.int .i64 x.b):=by
 have hi:i < n:=by
  have:=(List.getElem?_eq_some_iff.1 hx).1
  have:=h.size
  omega
 obtain ⟨y,b',off',hy,e,c⟩:=zaJ (h.below hb) i hi;cases e;rw [hx] at hy;cases hy;exact c

theorem zgz {w:World} {base g n cap:Nat} {pre post:List VR} {x y:VR} (h:w.ownsRow base 82 3 (.slice (some ⟨g,0,none⟩) n cap) n (vrowF.all (pre++x::post))) :
  (((w.setCell ⟨g,pre.length*3,none⟩ (.int .i64 y.i)).setCell ⟨g,pre.length*3+1,none⟩ (.int .i64 y.m)).setCell ⟨g,pre.length*3+2,none⟩ (.int .i64 y.b)).ownsRow base 82 3 (.slice (some ⟨g,0,none⟩) n cap) n (vrowF.all (pre++y::post)):=by
 have R0:=zZ (F:=vrowF) (x':=⟨y.i,x.m,x.b⟩) h 0 (.int .i64 y.i) (by decide) rfl;have R1:=zZ (F:=vrowF) (x':=⟨y.i,y.m,x.b⟩) R0 1 (.int .i64 y.m) (by decide) rfl;exact zZ (F:=vrowF) (x':=y) R1 2 (.int .i64 y.b) (by decide) rfl

theorem zeq {w:World} {g:Nat} (j0 j1 j2:Nat) (u0 u1 u2:Value):w.grownBy (((w.setCell ⟨g,j0,none⟩ u0).setCell ⟨g,j1,none⟩ u1).setCell ⟨g,j2,none⟩ u2) (some g) :=
 zE (zE (zl _ _) (zl _ _)) (zl _ _)

theorem zeB {w:World} {base g n cap:Nat} {T:TypeId} {l:List VR} (h:w.ownsRow base T 3 (.slice (some ⟨g,0,none⟩) n cap) n (vrowF.all l)) {i:Nat} {x:VR} (hx:l[i]?=some x) :
  (w.cell? ⟨g,i*3,none⟩=some (.int .i64 x.i)∧w.cell? ⟨g,i*3+1,none⟩=some (.int .i64 x.m)∧w.cell? ⟨g,i*3+2,none⟩=some (.int .i64 x.b)) ∧
  (w.frozen? ⟨g,i*3,none⟩=false∧w.frozen? ⟨g,i*3+1,none⟩=false∧w.frozen? ⟨g,i*3+2,none⟩=false):=by
 have c0:=zao (F:=vrowF) h hx (j:=0) (v:=.int .i64 x.i) rfl;have c1:=zao (F:=vrowF) h hx (j:=1) (v:=.int .i64 x.m) rfl;have c2:=zao (F:=vrowF) h hx (j:=2) (v:=.int .i64 x.b) rfl;exact ⟨⟨c0.1,c1.1,c2.1⟩,c0.2,c1.2,c2.2⟩

theorem zfB (ao:Option Addr) (n c:Nat) (l:List VR) (w:World) (hl:GRow vrowF w ao n c l) (hs:n≤1048576) :
  Calls Tryz.prog 92 #[.slice ao n c] w fun r w'=>∃ao' cap,r=.returned (.slice ao' n cap)∧w'.ownsRow w.heap.size 82 3 (.slice ao' n cap) n (vrowF.all l)∧GRow vrowF w' ao' n cap l∧Below w.heap.size w w':=by
 obtain ⟨i0,hi,hz0,hz1,hz2⟩:=zbe zhO;have s1:=hl.size;go_enter Tryz.func92,Tryz.ntmps92;go_wp2_with (at_make; refine wpList_make_full _ rfl _ _ 26 rfl w.heap.size 82 i0 (.agg #[.int .i64 0,.int .i64 0,.int .i64 0]) 3 Tryz.underlying26 hi hz0 hz1 .i64 .i64 _ _ n rfl rfl rfl rfl ?c1 ?c2 ?c3 ?_)
 case c1=>rw [hz2]; omega
 case c2=>unfold maxLen; omega
 case c3=>exact Nat.le_refl _
 intro w1 hown hgrow;have hb1:Below w.heap.size w w1:=(Below.refl _ _).grown hgrow (Nat.le_refl _) (by intro k hk; cases hk);have hown1:w1.ownsRow w.heap.size 82 3 (.slice (some ⟨w.heap.size,0,none⟩) n n) n (vrowF.all (l.take 0++List.replicate (n - 0) VR.zero)):=by
  rw [List.take_zero,List.nil_append,Nat.sub_zero,← zdL]; exact hown
 clear hown hgrow hi hz0 hz1 hz2;go_wp2
 go_loopw [4] (fun i wr=>∃k:Nat,k≤n∧i=.int .i64 k∧wr.ownsRow w.heap.size 82 3 (.slice (some ⟨w.heap.size,0,none⟩) n n) n (vrowF.all (l.take k++List.replicate (n - k) VR.zero))∧Below w.heap.size w wr) (fun i _=>n - (intOf i).toNat)
 case atStart=>exact ⟨0,Nat.zero_le _,rfl,hown1,hb1⟩
 case round =>
  obtain ⟨k,hk,rfl,ho,hb⟩:=hrel;clear hown1 hb1;by_cases hlt:k < n
  ·obtain ⟨x,b,off,hx,rfl,a0,a1,a2⟩:=zaJ (hl.below hb) k hlt;have hrep:List.replicate (n - k) VR.zero=VR.zero::List.replicate (n - (k+1)) VR.zero:=by rw [← List.replicate_succ]; congr 1; omega
   have hlk:(l.take k).length=k:=by rw [List.length_take]; omega
   rw [hrep] at ho;have htk:l.take (k+1)=l.take k++[x]:=by rw [List.take_add_one,hx]; rfl
   have HTK:=hide htk;have HB:=hide hb;have HO:=hide ho;have HX:=hide hx;clear hb ho htk hx;(go_wp2_with fail);refine (zgb x _).mono ?_;rintro r w2 ⟨rfl,hb2⟩;have ho2:=zm HO.out hb2;have hz:(l.take k++VR.zero::List.replicate (n - (k+1)) VR.zero)[k]?=some VR.zero:=by rw [List.getElem?_append_right (by omega),hlk,Nat.sub_self]; rfl
   obtain ⟨⟨t0,t1,t2⟩,f0,f1,f2⟩:=zeB ho2 hz;have o3:=zgz (y:=x) ho2;rw [hlk] at o3;have HO3:=hide o3;have hb3:=zd HB.out hb2;have HB3:=hide (hb3.grown (zeq (w:=w2) (g:=w.heap.size) (k*3) (k*3+1) (k*3+2) (.int .i64 x.i) (.int .i64 x.m) (.int .i64 x.b)) hb3.size (by intro j e; cases e; exact Nat.le_refl _));clear ho2 hb2 hb3 o3 hz a0 a1 a2;go_wp2
   go_roundw
   case rel=>exact ⟨k+1,by omega,by go_num,by rw [HTK.out,List.append_assoc]; exact HO3.out,HB3.out⟩
   case measure=>simp [intOf]; omega
  ·have hkn:k=n:=by omega
   subst hkn;rw [Nat.sub_self,List.take_of_length_le (by omega),List.replicate_zero,List.append_nil] at ho;have HO:=hide ho;have HR:=hide (zan ho);have HB:=hide hb;clear ho hb;go_wp2;go_ret;exact ⟨_,_,rfl,HO.out,HR.out,HB.out⟩

theorem zfJ (e:VR) (w:World) :
  Calls Tryz.prog 142 #[.agg #[.int .i64 e.i,.int .i64 e.m,.int .i64 e.b],.agg #[.int .i64 e.i,.int .i64 e.m,.int .i64 e.b]] w fun r w'=>r=.returned (.bool true)∧Below w.heap.size w w':=by
 go_enter Tryz.func142,Tryz.ntmps142;go_wp2;go_ret;exact ⟨rfl,zA _ _ _⟩

theorem zf8 (ao:Option Addr) (n c:Nat) (left:Int) (w:World) (hl:n≤maxLen) (h0:0≤left) (h1:left≤1048576) :
  Calls Tryz.prog 81 #[.slice ao n c,.int .i64 left] w fun r w'=>r=.returned (.int .i64 (if (n:Int)≤left then left - n else -1))∧w'=w:=by
 unfold maxLen at hl;go_enter Tryz.func81,Tryz.ntmps81;go_wp2
 all_goals go_ret
 all_goals exact ⟨rfl,rfl⟩

theorem zf7 (ao:Option Addr) (n c:Nat) (left:Int) (w:World) (hl:n≤maxLen) (h0:0≤left) (h1:left≤1048576) :
  Calls Tryz.prog 82 #[.slice ao n c,.int .i64 left] w fun r w'=>r=.returned (.int .i64 (if (n:Int)≤left then left - n else -1))∧w'=w:=by
 unfold maxLen at hl;go_enter Tryz.func82,Tryz.ntmps82;go_wp2
 all_goals go_ret
 all_goals exact ⟨rfl,rfl⟩

def markR (k:Int):VR:=⟨k,k+1,k+1+1⟩
def zbN (k:Int) (n:Nat):List VR:=(List.range n).map fun (i:Nat)=>markR (k+3*i)

theorem zeP (k:Int) (n:Nat):(zbN k n).length=n:=by simp [zbN]
theorem zfW (k:Int) (j:Nat):zbN k (j+1)=zbN k j++[markR (k+3*j)]:=by simp [zbN,List.range_succ]
theorem zjk (k:Int) (n j:Nat) (h:j < n):(zbN k n)[j]?=some (markR (k+3*j)):=by simp [zbN,List.getElem?_map,List.getElem?_range h]

theorem zfi (base g n cap:Nat) (l:List VR) (k:Int) (w:World) (hown:w.ownsRow base 82 3 (.slice (some ⟨g,0,none⟩) n cap) n (vrowF.all l)) (hn:n≤16777216) (hk0:0≤k) (hk1:k≤1099511627776) :
  Calls Tryz.prog 96 #[.slice (some ⟨g,0,none⟩) n cap,.int .i64 k] w fun r w'=>r=.returned (.int .i64 (k+3*n))∧w'.ownsRow base 82 3 (.slice (some ⟨g,0,none⟩) n cap) n (vrowF.all (zbN k n))∧w.grownBy w' (some g):=by
 have hl:l.length=n:=(zan (F:=vrowF) hown).size;go_enter Tryz.func96,Tryz.ntmps96;go_wp2
 go_loopw [1,5] (fun m i wr=>∃j:Nat,j≤n∧i=.int .i64 j∧m=.int .i64 (k+3*j)∧wr.ownsRow base 82 3 (.slice (some ⟨g,0,none⟩) n cap) n (vrowF.all (zbN k j++l.drop j))∧w.grownBy wr (some g)) (fun _ i _=>n - (intOf i).toNat)
 case atStart=>exact ⟨0,Nat.zero_le _,rfl,by simp,by simpa [zbN] using hown,World.grownBy.refl _ _⟩
 case round =>
  obtain ⟨j,hj,rfl,rfl,how,hg⟩:=hrel;by_cases hlt:j < n
  ·obtain ⟨x,hx⟩:∃x,l[j]?=some x:=⟨l[j]'(by omega),List.getElem?_eq_getElem (by omega)⟩;have hdr:l.drop j=x::l.drop (j+1):=by
    obtain ⟨h,rfl⟩:=List.getElem?_eq_some_iff.1 hx;exact List.drop_eq_getElem_cons h
   rw [hdr] at how;have hlj:=zeP k j;have hz:(zbN k j++x::l.drop (j+1))[j]?=some x:=by rw [List.getElem?_append_right (by omega),hlj,Nat.sub_self]; rfl
   obtain ⟨⟨t0,t1,t2⟩,f0,f1,f2⟩:=zeB how hz;have o3:=zgz (y:=markR (k+3*j)) how;rw [hlj] at o3;have HO3:=hide o3;have HG:=hide (zE hg (zeq (w:=wr) (g:=g) (j*3) (j*3+1) (j*3+2) (.int .i64 (markR (k+3*j)).i) (.int .i64 (markR (k+3*j)).m) (.int .i64 (markR (k+3*j)).b)));have HM:=hide (zfW k j);have hm:0≤k+3*(j:Int)∧k+3*(j:Int)≤2199023255552:=by omega
   clear how hg hown o3 hz hdr;generalize hK:k+3*(j:Int)=K at *;go_wp2
   go_roundw
   case rel=>exact ⟨j+1,by omega,by go_num,by simp; omega,by rw [HM.out,List.append_assoc]; exact HO3.out,HG.out⟩
   case measure=>simp [intOf]; omega
  ·have hj':j=n:=by omega
   subst hj';rw [List.drop_eq_nil_of_le (by omega),List.append_nil] at how;have HO:=hide how;clear how hown;go_wp2;go_ret;exact ⟨rfl,HO.out,hg⟩

theorem zeQ (k:Int) (c:Nat) (w:World) :
  Calls Tryz.prog 96 #[.slice none 0 c,.int .i64 k] w fun r w'=>r=.returned (.int .i64 k)∧w'=w:=by
 go_enter Tryz.func96,Tryz.ntmps96;go_wp2
 go_loop [1,5] (fun m i=>m=.int .i64 k∧i=.int .i64 0) (fun _ _=>0)
 case atStart=>exact ⟨rfl,rfl⟩
 case round =>
  obtain ⟨rfl,rfl⟩:=hrel;go_wp2;go_ret;exact ⟨rfl,rfl⟩

theorem zdZ (base:Nat) (ao:Option Addr) (n cap:Nat) (l:List VR) (k:Int) (w:World) (hown:w.ownsRow base 82 3 (.slice ao n cap) n (vrowF.all l)) (hn:n≤16777216) (hk0:0≤k) (hk1:k≤1099511627776) :
  Calls Tryz.prog 96 #[.slice ao n cap,.int .i64 k] w fun r w'=>r=.returned (.int .i64 (k+3*n))∧w'.ownsRow base 82 3 (.slice ao n cap) n (vrowF.all (zbN k n))∧w.grownBy w' (Value.slice ao n cap).ownBlock:=by
 rcases hown.2 with ⟨e,h0⟩ | ⟨g,cap',cur,e,-⟩
 ·cases e;refine (zeQ k 0 w).mono ?_;rintro r w' ⟨rfl,rfl⟩;exact ⟨by simp,by simpa [zbN,Flat.all] using World.ownsRow_nil w' base 82 3,World.grownBy.refl _ _⟩
 ·cases e;exact zfi base g n cap l k w hown hn hk0 hk1

theorem ze5 (ao:Option Addr) (n c:Nat) (ao':Option Addr) (n' c':Nat) (l:List VR) (w:World) (hl:GRow vrowF w ao n c l) (hl':GRow vrowF w ao' n' c' l) :
  Calls Tryz.prog 95 #[.slice ao n c,.slice ao' n' c'] w fun r w'=>r=.returned (.bool true)∧Below w.heap.size w w':=by
 have hs:=hl.size;have hs':=hl'.size;have htop:=Nat.le_trans hl.le hl.top;unfold maxLen at htop;have hnn:n'=n:=by omega
 subst hnn;go_enter Tryz.func95,Tryz.ntmps95;go_wp2
 go_loopw [5] (fun i wr=>∃k:Nat,k≤n'∧i=.int .i64 k∧Below w.heap.size w wr) (fun i _=>n' - (intOf i).toNat)
 case atStart=>exact ⟨0,Nat.zero_le _,rfl,Below.refl _ _⟩
 case round =>
  obtain ⟨k,hk,rfl,hb⟩:=hrel;by_cases hlt:k < n'
  ·obtain ⟨x,b,off,hx,rfl,a0,a1,a2⟩:=zaJ (hl.below hb) k hlt;obtain ⟨y,b',off',hy,rfl,e0,e1,e2⟩:=zaJ (hl'.below hb) k hlt;rw [hx] at hy;cases hy;have HS:Hid (∀W,Below wr.heap.size wr W→(zcc W b (off+k*3) (.int .i64 x.i)∧zcc W b (off+k*3+1) (.int .i64 x.m)∧zcc W b (off+k*3+2) (.int .i64 x.b))∧(zcc W b' (off'+k*3) (.int .i64 x.i)∧zcc W b' (off'+k*3+1) (.int .i64 x.m)∧zcc W b' (off'+k*3+2) (.int .i64 x.b))):=hide (fun W h=>⟨at3h (hl.below hb) h hx,at3h (hl'.below hb) h hx⟩);have vv:Below wr.heap.size wr wr.drew:=zw (Below.refl _ _);have i1:(0:Int)≤(k:Int):=by omega
   have i2:(k:Int) < (n':Int):=by omega
   have HB:=hide hb;clear hb a0 a1 a2 e0 e1 e2 hx;(go_wp2_with fail);refine wp_region_held_drew (S:=(fun W=>(zcc W b (off+k*3) (.int .i64 x.i)∧zcc W b (off+k*3+1) (.int .i64 x.m)∧zcc W b (off+k*3+2) (.int .i64 x.b))∧(zcc W b' (off'+k*3) (.int .i64 x.i)∧zcc W b' (off'+k*3+1) (.int .i64 x.m)∧zcc W b' (off'+k*3+2) (.int .i64 x.b)))) (by kernel_rfl) (HS.out _ vv) (fun hHeld => ?_);refine kK 0 ⟨some 17,.move (.tmp 0),26,"exact.go:657",#[],none⟩ ?_;refine kK 1 ⟨some 18,.move (.tmp 5),3,"exact.go:657",#[],none⟩ ?_;refine kK 2 ⟨some 19,.indexAddr 26 (.tmp 17) (.tmp 18),0,"exact.go:657",#[⟨0,.data⟩,⟨1,.data⟩],none⟩ ?_;refine kK 3 ⟨some 20,.load 82 (.tmp 19),82,"exact.go:657",#[⟨2,.data⟩],none⟩ ?_;refine kK 4 ⟨some 21,.move (.tmp 1),26,"exact.go:657",#[],none⟩ ?_;refine kK 5 ⟨some 22,.move (.tmp 5),3,"exact.go:657",#[],none⟩ ?_;refine kK 6 ⟨some 23,.indexAddr 26 (.tmp 21) (.tmp 22),0,"exact.go:657",#[⟨4,.data⟩,⟨5,.data⟩],none⟩ ?_;refine kK 7 ⟨some 24,.load 82 (.tmp 23),82,"exact.go:657",#[⟨6,.data⟩],none⟩ ?_;refine kR 8 ⟨some 25,.call ⟨.value (.func 142),#[.tmp 20,.tmp 24],#[82,82]⟩,4,"exact.go:657",#[⟨3,.data⟩,⟨7,.data⟩],none⟩ (fun K hK => ?_);go_simp;refine (zfJ x _).mono ?_;rintro r wz ⟨rfl,hbz⟩;have vv:=zd vv hbz;(go_wp2_with fail);refine kO hK (HS.out _ vv) fun hHeld => ?_
   clear hK K;refine kK 9 ⟨some 26,.unOp .not 4 (.tmp 25),4,"exact.go:657",#[⟨8,.data⟩],none⟩ ?_;refine wpAnyH_done (by kernel_rfl) ?_ _;have b1:=zd HB.out vv;clear HS hHeld vv;go_wp2
   go_roundw
   case rel=>exact ⟨k+1,by omega,by go_num,b1⟩
   case measure=>simp [intOf]; omega
  ·have hk':k=n':=by omega
   subst hk';go_wp2;go_ret;exact ⟨rfl,hb⟩

theorem zdQ (K N:Int) (S:ByteArray) (a1:Option Addr) (l1 c1:Nat) (z1:List Int) (K' N':Int) (S':ByteArray) (a2:Option Addr) (l2 c2:Nat) (z2:List Int) (w:World) (h1:IRow w a1 l1 c1 z1) (h2:IRow w a2 l2 c2 z2) :
  Calls Tryz.prog 13 #[.agg #[.int .i64 K,.int .i64 N,.string S,.slice a1 l1 c1],.agg #[.int .i64 K',.int .i64 N',.string S',.slice a2 l2 c2]] w fun e w'=>e=.returned (.bool (sameV K N S z1 K' N' S' z2))∧Below w.heap.size w w':=by
 generalize hP:sameV K N S z1 K' N' S' z2=P;have HP:=hide hP;clear hP;cases t1:(K == K')
 ·go_enter Tryz.func13,Tryz.ntmps13;go_wp2;go_ret;exact ⟨zt (by rw [← HP.out]; simp [sameV,t1]),zA _ _ _⟩
 cases t2:(N == N')
 ·go_enter Tryz.func13,Tryz.ntmps13;go_wp2;go_ret;exact ⟨zt (by rw [← HP.out]; simp [sameV,t2]),zA _ _ _⟩
 cases t3:(S.toList == S'.toList)
 ·go_enter Tryz.func13,Tryz.ntmps13;go_wp2;go_ret;exact ⟨zt (by rw [← HP.out]; simp [sameV,t3]),zA _ _ _⟩
 go_enter Tryz.func13,Tryz.ntmps13;go_wp2_with fail
 refine (ze6 a1 l1 c1 z1 a2 l2 c2 z2 _ (h1.below (zA _ _ _)) (h2.below (zA _ _ _))).mono ?_;rintro e w1 ⟨rfl,n,rfl⟩;go_wp2;go_ret;exact ⟨zt (by rw [← HP.out]; simp [sameV,t1,t2,t3]),zV (zA _ _ _) n⟩

end Go.Proofs.YtljbdmlgfggadaaGreat
