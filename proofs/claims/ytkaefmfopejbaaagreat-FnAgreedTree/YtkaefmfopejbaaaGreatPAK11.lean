/-
  Packed: SeqB ValsB QInt DrawNt3 DrawNt1.
-/
import Derived.Test.YtkaefmfopejbaaaGreatPAK06
import Derived.Test.YtkaefmfopejbaaaGreatPAK10
import Derived.Test.YtkaefmfopejbaaaGreatShelf
import Derived.Shelf.SlIterI.Sorted
import Derived.RangeFuncBound
namespace Go.Proofs.YtkaefmfopejbaaaGreat
set_option maxRecDepth 100000
set_option maxHeartbeats 16000000
open Go.RowKit

section
open Go.RowKit Go.Maps Go.Sort Go.Shelf

def ze2 (F:Fence) (n:Nat) (P:Program) (g:Nat) (lb:Array Value) (S:List Int→Prop) (N:Nat) (w:World):Prop :=
 ∀(l:Nat) (J:List Int→World→Prop) (W:World),Below w.heap.size w W→AbidesFrom W.heap.size J→(∀pre W1,J pre W1→Below w.heap.size w W1) →
  (∀pre x W1,J pre W1→pre.length < N→YieldAt F (n - 1) P l #[encZ x] W1 fun e W'=>e=.returned (.bool true)∧J (pre++[x]) W'∧KeepsWalks W1 W') →
  J [] W→CallsIn F n P g (#[.func (.yield l) #[] #[]]++lb) W fun e W'=>(∃v,e=.returned v)∧∃xs,S xs∧J xs W'

theorem zmS {F:Fence} {n:Nat} {P:Program} {g:Nat} {lb:Array Value} {S:List Int→Prop} {N:Nat} {w:World} (h:SeqGives F n P g lb encZ S N w):ze2 F n P g lb S N w:=fun l J W hW hJ _ hY h0=>h l J W hW hJ hY h0

variable {P:Program} {ρ:Ren}

theorem zjL (L:SlLaysZI.n11 P ρ) (F:Fence) (n:Nat) (h11:F.fn (ρ.f 11)) (hro:F.round=none) (hn:2≤n) (g:Nat) (lb:Array Value) (hFg:F.fn g) (eg:∀args w,(callFunc g args).run P w=.ok (.enter g args) w)
    (S:List Int→Prop) (N:Nat) (hN:N≤maxLen) (hNb:N*8≤140737488355328) (w:World) (hseq:ze2 F (n - 1) P g lb S N w) :
    CallsIn F n P (ρ.f 11) #[.slice none 0 0,.func (.func g) #[] lb] w fun e w'=>∃(v:Value) (ss:List Int),e=.returned v∧S ss∧w'.ownsRow w.heap.size (ρ.t 26) 1 v ss.length (ss.map encZ)∧(v=.slice none 0 0↔ss=[])∧Below w.heap.size w w':=by
  have h1:1≤n:=by omega
  have mixed:=L.mixed; have t0:=L.t0; have a0:=L.a0; have z0:=L.z0; have v0:=L.v0; have t24:=L.t24; have a24:=L.a24; have z24:=L.z24; have v24:=L.v24; have t26:=L.t26; have a26:=L.a26; have z26:=L.z26; have v26:=L.v26; have t28:=L.t28; have a28:=L.a28; have z28:=L.z28; have v28:=L.v28
  have hne:ρ.t 24≠ρ.t 26:=fun e=>by have h:=L.t24; rw [e,L.t26] at h; cases h
  have u0:=run_underlying L.t0; have u24:=run_underlying L.t24; have u26:=run_underlying L.t26; have u28:=run_underlying L.t28
  obtain ⟨_,_,FG⟩:=L.f11;refine callsIn_of_wp_marks FG rfl h11 ?_ hro;simp only [SlBodyZ.n11_ntmps ρ,List.size_toArray,List.length_cons,List.length_nil,Nat.reduceAdd,Nat.reduceSub,Array.replicate_succ,Array.replicate_zero,List.push_toArray,List.append_toArray,List.nil_append,List.cons_append]
  gi_wp2
  refine wpIn_rangeFunc ?_;intro fn hfn;rw [hro];obtain ⟨W0,hW0⟩:∃W0,w.alloc (.cells #[.slice none 0 0] (ρ.t 24))=W0:=⟨_,rfl⟩;have hs0:W0.heap.size=w.heap.size+1:=by rw [← hW0]; simp
  have hv0:W0.heap[w.heap.size]? = some (.cells #[.slice none 0 0] (ρ.t 24) (0,0)):=by rw [← hW0]; exact World.alloc_heap_new w _
  have hb0:Below w.heap.size w W0:=by rw [← hW0]; exact (Below.refl _ w).alloc (Nat.le_refl _) _
  rw [hW0];obtain ⟨W1,hW1⟩:∃W1,(W0.alloc (.deferred (some []))).alloc (.loop (AnyZI.apRec ρ fn (.func (.func g) #[] lb) w.heap.size W0.heap.size .ready none))=W1:=⟨_,rfl⟩;have hold:∀k,k < W0.heap.size→W1.heap[k]? = W0.heap[k]? := fun k hk=>by
    rw [← hW1]; exact (Below.heap_alloc _ _ k (by simp; omega)).trans (Below.heap_alloc _ _ k hk)
  have hb1:Below w.heap.size w W1:=by rw [← hW1]; exact (hb0.alloc hb0.size _).alloc (by have:=hb0.size; simp; omega) _
  have hs1:W1.heap.size=W0.heap.size+2:=by rw [← hW1]; simp
  have hM:AnyZI.ApAt ρ w fn (.func (.func g) #[] lb) w.heap.size (W0.heap.size+1) W0.heap.size [] W1 :=
    ⟨⟨_,(hold w.heap.size (by omega)).trans hv0,⟨rfl,.inl ⟨rfl,rfl⟩⟩,by simp⟩,
     by rw [← hW1]; have:=World.alloc_heap_new (W0.alloc (.deferred (some []))) (.loop (AnyZI.apRec ρ fn (.func (.func g) #[] lb) w.heap.size W0.heap.size .ready none)); rwa [World.size_alloc] at this,
     by rw [← hW1]; exact (Below.heap_alloc _ _ _ (by simp)).trans (World.alloc_heap_new W0 _),hb1⟩
  refine ⟨W0.heap.size+1,[{ target:=.collected W0.heap.size,args:=#[] }],W1,{ target:=.fn (.func g) lb,args:=#[.func (.yield (W0.heap.size+1)) #[] #[]] },W1,g,
    #[.func (.yield (W0.heap.size+1)) #[] #[]]++lb,W1, ?_, ?_, ?_, ?_,fun _=>h1, ?_⟩
  · rw [← hW1]; exact run_enterLoop_outer _ _ _ _ _
  · simp [resolve,go_sem]
  · intro f' hf'; simp [Target.leads] at hf'; subst hf'; exact hFg
  · simp [invoke,go_sem,eg]
  · refine (hseq (W0.heap.size+1) (AnyZI.ApAt ρ w fn (.func (.func g) #[] lb) w.heap.size (W0.heap.size+1) W0.heap.size) W1 hb1 (AnyZI.ap_abides ρ _ _ _ _ _ _ _ hb1.size) (fun _ _ hj=>hj.below)
      (fun pre x W hJ hl=>AnyZI.apYield { L with } F (n - 1 - 1) w fn hfn _ w.heap.size (W0.heap.size+1) W0.heap.size (by omega) (by omega) (by omega) (Nat.le_refl _) (by omega) N hN hNb pre x W hJ hl) hM).mono ?_
    rintro e W2 ⟨⟨v0,rfl⟩,ss,hS,h2⟩;obtain ⟨v,hv,hrow,hnil⟩:=h2.box;have hend:=run_endLoop (P:=P) h2.L (by simp [AnyZI.apRec]);obtain ⟨W3,hW3⟩:∃W3,W2.putObj (W0.heap.size+1) (.loop { AnyZI.apRec ρ fn (.func (.func g) #[] lb) w.heap.size W0.heap.size .ready none with state:=.exhausted })=W3:=⟨_,rfl⟩;rw [hW3] at hend;have hg3:W2.grownBy W3 (some (W0.heap.size+1)):=by rw [← hW3]; exact grownBy_putObj_a _ _ _
    have hv3:W3.heap[w.heap.size]? = some (.cells #[v] (ρ.t 24) (0,0)):=by rw [← hW3]; exact (World.putObj_heap_other (by omega)).trans hv
    have hK3:W3.heap[W0.heap.size]? = some (.deferred (some [])):=by rw [← hW3]; exact (World.putObj_heap_other (by omega)).trans h2.K
    have hrow3:=hrow.kept hg3 (ownsRow_ne_a hrow h2.L (fun cur e=>by first | cases e | exact hne (Obj.cells.inj e).2.1));have hb3:Below w.heap.size w W3:=h2.below.grown hg3 h2.below.size (fun k e=>by cases e; omega);obtain ⟨hc3,hf3⟩:=cell_of_box_a hv3;clear hW3;refine ⟨none,W3,hend, ?_⟩
    gi_wp2
    rw [← hs0];refine ⟨by simp,.inl ⟨_,_,rfl,run_takeDeferred hK3, ?_⟩⟩;exact ⟨_,results_tmp rfl _ _ _,v,ss,rfl,hS,hrow3.kept (grownBy_putObj_a _ _ _) (ownsRow_ne_a hrow3 hK3 (fun cur e=>by first | cases e | exact hne (Obj.cells.inj e).2.1)),hnil,hb3.grown (grownBy_putObj_a _ _ _) hb3.size (fun k e=>by cases e; omega)⟩

theorem zii (L:SlLaysZI.n8 P ρ) (F:Fence) (n:Nat) (h8:F.fn (ρ.f 8)) (h11:F.fn (ρ.f 11)) (hro:F.round=none) (hn:3≤n) (g:Nat) (lb:Array Value) (hFg:F.fn g) (eg:∀args w,(callFunc g args).run P w=.ok (.enter g args) w)
  (S:List Int→Prop) (N:Nat) (hN:N≤maxLen) (hNb:N*8≤140737488355328) (w:World) (hseq:ze2 F (n - 1 - 1) P g lb S N w) :
  CallsIn F n P (ρ.f 8) #[.func (.func g) #[] lb] w fun e w'=>∃(v:Value) (ss:List Int),e=.returned v∧S ss∧w'.ownsRow w.heap.size (ρ.t 26) 1 v ss.length (ss.map encZ)∧(v=.slice none 0 0↔ss=[])∧Below w.heap.size w w':=by
 have h1:1≤n:=by omega
 have e11:∀args w,(callFunc (ρ.f 11) args).run P w=.ok (.enter (ρ.f 11) args) w:=L.f11.enters rfl;have mixed:=L.mixed; have t0:=L.t0; have a0:=L.a0; have z0:=L.z0; have v0:=L.v0; have t24:=L.t24; have a24:=L.a24; have z24:=L.z24; have v24:=L.v24; have t26:=L.t26; have a26:=L.a26; have z26:=L.z26; have v26:=L.v26; have t28:=L.t28; have a28:=L.a28; have z28:=L.z28; have v28:=L.v28
 have u0:=run_underlying L.t0; have u24:=run_underlying L.t24; have u26:=run_underlying L.t26; have u28:=run_underlying L.t28
 obtain ⟨_,_,FG⟩:=L.f8;refine callsIn_of_wp FG rfl h8 ?_ hro;simp only [SlBodyZ.n8_ntmps ρ,List.size_toArray,List.length_cons,List.length_nil,Nat.reduceAdd,Nat.reduceSub,Array.replicate_succ,Array.replicate_zero,List.push_toArray,List.append_toArray,List.nil_append,List.cons_append]
 gi_wp2_with (gi_at_fn (ρ.f 11); refine (zjL { L with } F (n - 1) h11 hro (by omega) g lb hFg eg S N hN hNb _ hseq).mono ?_; rintro e w' ⟨v,ss,rfl,hS,hrow,hnil,hb⟩)
 go_ret;exact ⟨v,ss,rfl,hS,hrow,hnil,hb⟩

theorem zkj (L:SlLaysZI.n6 P ρ) (F:Fence) (n:Nat) (h6:F.fn (ρ.f 6)) (h8:F.fn (ρ.f 8)) (h9:F.fn (ρ.f 9)) (h11:F.fn (ρ.f 11)) (hro:F.round=none) (hn:4≤n) (hsort:AnyZI.SortsIn P ρ F (n - 1)) (e9:∀args w,(callFunc (ρ.f 9) args).run P w=.ok (.enter (ρ.f 9) args) w) (g:Nat) (lb:Array Value) (hFg:F.fn g) (eg:∀args w,(callFunc g args).run P w=.ok (.enter g args) w)
  (S:List Int→Prop) (N:Nat) (hlenS:∀ss,S ss→ss.length≤N) (hN:N≤maxLen) (hNb:N*8≤140737488355328) (w:World) (hseq:ze2 F (n - 1 - 1 - 1) P g lb S N w) :
  CallsIn F n P (ρ.f 6) #[.func (.func g) #[] lb] w fun e w'=>∃(v:Value) (ss:List Int),e=.returned v∧S ss ∧
   w'.ownsRow w.heap.size (ρ.t 26) 1 v ss.length ((ss.mergeSort (fun x y=>decide (x≤y))).map encZ)∧(v=.slice none 0 0↔ss=[])∧Below w.heap.size w w':=by
 have h1:1≤n:=by omega
 have e8:∀args w,(callFunc (ρ.f 8) args).run P w=.ok (.enter (ρ.f 8) args) w:=L.f8.enters rfl;have mixed:=L.mixed; have t0:=L.t0; have a0:=L.a0; have z0:=L.z0; have v0:=L.v0; have t24:=L.t24; have a24:=L.a24; have z24:=L.z24; have v24:=L.v24; have t26:=L.t26; have a26:=L.a26; have z26:=L.z26; have v26:=L.v26; have t28:=L.t28; have a28:=L.a28; have z28:=L.z28; have v28:=L.v28
 have u0:=run_underlying L.t0; have u24:=run_underlying L.t24; have u26:=run_underlying L.t26; have u28:=run_underlying L.t28
 obtain ⟨_,_,FG⟩:=L.f6;refine callsIn_of_wp FG rfl h6 ?_ hro;simp only [SlBodyZ.n6_ntmps ρ,List.size_toArray,List.length_cons,List.length_nil,Nat.reduceAdd,Nat.reduceSub,Array.replicate_succ,Array.replicate_zero,List.push_toArray,List.append_toArray,List.nil_append,List.cons_append]
 gi_wp2_with (gi_at_fn (ρ.f 8); refine (zii { L with } F (n - 1) h8 h11 hro (by omega) g lb hFg eg S N hN hNb _ hseq).mono ?_; rintro e W ⟨v,ss,rfl,hS,hrow,hnil,hb⟩)
 have hlen:=hlenS ss hS;rcases hrow.2 with ⟨rfl,hz⟩ | ⟨gb,cap,cur,rfl,hbase,hgb,r1,r2,r3,r4⟩
 ·have hss:ss=[]:=List.eq_nil_of_length_eq_zero hz;subst hss
  gi_wp2_with (gi_at_fn (ρ.f 9); refine (hsort.2 none 0 W).mono ?_; rintro e w' ⟨rfl,rfl⟩)
  go_ret;exact ⟨.slice none 0 0,[],rfl,hS,by simpa using hrow,by simp,hb⟩
 ·have hH:Holds encZ W gb 0 ss.toArray:=holds_of_block_i hgb (by simpa using r4);have hgl:gb < W.heap.size:=(Array.getElem?_eq_some_iff.1 hgb).1;have hsz:ss.length < 4611686018427387904:=by omega
  have cS:=hsort.1 gb 0 cap ss W hH hgl hsz
  gi_wp2_with (gi_at_fn (ρ.f 9); refine cS.mono ?_; rintro e w' ⟨rfl,nn,os,rfl⟩)
  go_ret;exact ⟨_,ss,rfl,hS,ownsRow_sorted_i (by simp) hbase hgb r1 r2 r3,hnil,hb.grown (grownBy_sorted_i _) hb.size (fun j hj=>by cases hj; exact hbase)⟩

end

section
open Go.RowKit Go.Maps Go.Sort Go.Shelf

def zi1 (W:World) (sv:Value) (zs:List Int):Prop :=
 (∃a cap,sv=.slice a 0 cap∧zs=[])∨∃b off cap,sv=.slice (some ⟨b,off,none⟩) zs.length cap∧∀j,j < zs.length→b < W.heap.size∧W.cell? ⟨b,off+j,none⟩=some (.int .i64 (zs[j]?.getD 0))

theorem zmu (F:Fence) (n:Nat) (h7:F.fn 95) (hro:F.round=none) (hn:1≤n) (l Bs:Nat) (sv:Value) (zs:List Int) (w:World) (hreach:zs.length*8≤140737488351232) (hBs:Bs < w.heap.size) (hc:w.cell? ⟨Bs,0,none⟩=some sv) (hI:zi1 w sv zs) (J:List Int→World→Prop) (W:World)
  (hB:∀pre W1,J pre W1→Below w.heap.size w W1)
  (hY:∀pre x W1,J pre W1→pre.length < zs.length→YieldAt F (n - 1) Tryz.prog l #[encZ x] W1 fun e W'=>e=.returned (.bool true)∧J (pre++[x]) W'∧KeepsWalks W1 W')
  (h0:J [] W) :
  CallsIn F n Tryz.prog 95 #[.func (.yield l) #[] #[],.pointer (some ⟨Bs,0,none⟩)] W fun e W'=>(∃v,e=.returned v)∧∃xs,xs=zs∧J xs W':=by
 have hcW:=((hB [] W h0).cell (p:=⟨Bs,0,none⟩) hBs).trans hc;rcases hI with ⟨a,cap,rfl,rfl⟩ | ⟨b,off,cap,rfl,hcs⟩
 ·refine callsIn_of_wp Tryz.func95 rfl h7 ?_ hro;simp only [Tryz.ntmps95,List.size_toArray,List.length_cons,List.length_nil,Nat.reduceAdd,Nat.reduceSub,Array.replicate_succ,Array.replicate_zero,List.push_toArray,List.append_toArray,List.nil_append,List.cons_append]
  gi_wp2
  gi_loopw [7] (fun i wr=>i=.int .i64 0∧J [] wr) (fun _ _=>0)
  case atStart=>exact ⟨rfl,h0⟩
  case round =>
   obtain ⟨rfl,hJs⟩:=hrel
   gi_wp2
   go_end0
   exact ⟨⟨_,rfl⟩,_,rfl,hJs⟩
 ·refine callsIn_of_wp Tryz.func95 rfl h7 ?_ hro;simp only [Tryz.ntmps95,List.size_toArray,List.length_cons,List.length_nil,Nat.reduceAdd,Nat.reduceSub,Array.replicate_succ,Array.replicate_zero,List.push_toArray,List.append_toArray,List.nil_append,List.cons_append]
  gi_wp2
  gi_loopw [7] (fun i wr=>∃k:Nat,k≤zs.length∧i=.int .i64 k∧J (zs.take k) wr) (fun i _=>zs.length - (intOf i).toNat)
  case atStart=>exact ⟨0,Nat.zero_le _,rfl,h0⟩
  case round =>
   obtain ⟨k,hk,rfl,hJs⟩:=hrel;have hnx:=hB _ _ hJs;by_cases hlt:k < zs.length
   ·have hcx:wr.cell? ⟨b,off+k,none⟩=some (.int .i64 (zs[k]?.getD 0)):=(hnx.cell (p:=⟨b,off+k,none⟩) (hcs k hlt).1).trans (hcs k hlt).2;have hT:zs.take k++[zs[k]?.getD 0]=zs.take (k+1):=by rw [List.take_add_one,List.getElem?_eq_getElem hlt]; rfl
    have hl:(zs.take k).length < zs.length:=by rw [List.length_take]; omega
    generalize zs[k]?.getD 0=x at hcx hT;have hYk:YieldAt F (n - 1) Tryz.prog l #[.int .i64 x] wr fun e W'=>e=.returned (.bool true)∧J (zs.take k++[x]) W'∧KeepsWalks wr W':=hY _ x wr hJs hl
    obtain ⟨fn,tmps,assign,body,hy,hR⟩:=hYk;have HT:=hide hT;clear hT hl
    gi_wp2
    refine hR.mono ?_;rintro e W3 ⟨rfl,hJ3,hk3⟩
    gi_wp2
    go_roundw
    case rel=>exact ⟨k+1,by omega,by simp,by rw [← HT.out]; exact hJ3⟩
    case measure=>simp [intOf]; omega
   ·obtain rfl:k=zs.length:=by omega
    gi_wp2
    go_end0
    exact ⟨⟨_,rfl⟩,_,rfl,by rw [List.take_length] at hJs; exact hJs⟩

theorem zh8 (F:Fence) (n:Nat) (h7:F.fn 95) (hro:F.round=none) (hn:1≤n) (Bs:Nat) (sv:Value) (zs:List Int) (w:World) (hreach:zs.length*8≤140737488351232) (hBs:Bs < w.heap.size) (hc:w.cell? ⟨Bs,0,none⟩=some sv) (hI:zi1 w sv zs) :
  ze2 F n Tryz.prog 95 #[.pointer (some ⟨Bs,0,none⟩)] (fun xs=>xs=zs) zs.length w:=fun l J W _ _ hB hY h0 =>
 zmu F n h7 hro hn l Bs sv zs w hreach hBs hc hI J W hB hY h0

theorem zkp (a:Option Addr) (len cap:Nat) (w:World) :
  Calls Tryz.prog 64 #[.slice a len cap] w fun e w'=>e=.returned (.func (.func 95) #[] #[.pointer (some ⟨w.heap.size,0,none⟩)])∧w'=w.alloc (.cells #[.slice a len cap] 35):=by
 go_enter Tryz.func64,Tryz.ntmps64;go_wp2;go_ret;exact ⟨rfl,rfl⟩

theorem zlr (m:Nat):AnyZI.SortsIn Tryz.prog Tryz.sortedI_ren Fence.wide m :=
  ⟨fun blk off cap ss W hH hblk hsz=>callsIn_wide.2 (Tryz.slices_Sort_int blk off cap ss W hH hblk hsz),
   fun p cap W=>callsIn_wide.2 (Tryz.slices_Sort_int_none p cap W)⟩

theorem zgC (g:Nat) (lb:Array Value) (eg:∀args w,(callFunc g args).run Tryz.prog w=.ok (.enter g args) w) (S:List Int→Prop) (N:Nat) (hlenS:∀ss,S ss→ss.length≤N) (hN:N≤16777216) (w:World) (hseq:ze2 Fence.wide 2 Tryz.prog g lb S N w) :
  Calls Tryz.prog 32 #[.func (.func g) #[] lb] w fun e w'=>∃(v:Value) (ss:List Int),e=.returned v∧S ss ∧
   w'.ownsRow w.heap.size 3 1 v ss.length ((ss.mergeSort (fun x y=>decide (x≤y))).map encZ)∧(v=.slice none 0 0↔ss=[])∧Below w.heap.size w w':=by
 have hN2:N≤maxLen:=by unfold maxLen; omega
 have h:=zkj Tryz.sortedI Fence.wide 5 trivial trivial trivial trivial rfl (by omega) (zlr _) (enters_of Tryz.func60 (by kernel_rfl) rfl) g lb trivial eg S N hlenS hN2 (by omega) w hseq
 change CallsIn _ _ Tryz.prog 32 _ _ _ at h
 exact callsIn_wide.1 h

theorem zf3 (sv:Value) (zs:List Int) (Bs:Nat) (w:World) (hreach:zs.length≤16777216) (hBs:Bs < w.heap.size) (hc:w.cell? ⟨Bs,0,none⟩=some sv) (hI:zi1 w sv zs) :
  Calls Tryz.prog 32 #[.func (.func 95) #[] #[.pointer (some ⟨Bs,0,none⟩)]] w fun e w'=>∃v:Value,e=.returned v ∧
   w'.ownsRow w.heap.size 3 1 v zs.length ((zs.mergeSort (fun x y=>decide (x≤y))).map encZ)∧(v=.slice none 0 0↔zs=[])∧Below w.heap.size w w':=by
 refine (zgC 95 _ (enters_of Tryz.func95 (by kernel_rfl) rfl) (fun xs=>xs=zs) zs.length (fun ss e=>by rw [e]; exact Nat.le_refl _) hreach w (zh8 Fence.wide 2 trivial rfl (by omega) Bs sv zs w (by omega) hBs hc hI)).mono ?_;rintro e w' ⟨v,ss,rfl,rfl,h1,h2,h3⟩;exact ⟨v,rfl,h1,h2,h3⟩

end

section
open Go.RowKit

section
variable {P:Program}

theorem zeS (w:World) (t ty e:TypeId) (i:TypeInfo) (ht:P.underlying t=some (.slice e)) (hi:P.info? e=some i)
  (g off sLen sCap:Nat) (cur:Array Value) (hg:w.heap[g]? = some (.cells cur e (0,0)))
  (a:Addr) (m c:Nat) (news:List Value) (hl:news.length=m*i.size) (hnews:∀j u,news[j]? = some u→w.cell? (a.add j)=some u) (h1:∀u∈news,u.oneCell'=true)
  (hroom:sLen+m≤sCap) (hfit:off+sLen*i.size+news.length≤cur.size) :
  (Builtin.append_ #[t,t] ty #[.slice (some ⟨g,off,none⟩) sLen sCap,.slice (some a) m c]).run P w =
   .ok (.slice (some ⟨g,off,none⟩) (sLen+m) sCap) (w.setRow g (cur.toList.take (off+sLen*i.size)++news++cur.toList.drop (off+sLen*i.size+news.length)).toArray):=by
 have hf:=run_firstCells_some (P:=P) w i.size m a m c news hl hnews;have hst:=run_storeCells_at P g (off+sLen*i.size) e news 0 cur w hg (by simpa using hfit) h1;simp only [Nat.add_zero] at hst
 simp [Builtin.append_,run_underlying ht,sizeOf,typeInfo,hi,Builtin.lenOf,hroom,hf,Addr.add_lit,hst]

def QG {α:Type} (f:α→Value) (w:World) (base:Nat) (T:TypeId) (v:Value) (l:List α):Prop :=
 ∃(g off cap:Nat) (cur:Array Value),v=.slice (some ⟨g,off,none⟩) l.length cap∧base≤g∧w.heap[g]? = some (.cells cur T (0,0))∧l.length≤cap∧cap≤maxLen∧off+cap≤cur.size∧∀j z,l[j]? = some z→cur[off+j]? = some (f z)

def encQ (z:Int):Value:=.int .i64 z
abbrev QOwn (w:World) (base:Nat) (T:TypeId) (v:Value) (l:List Int):Prop:=QG encQ w base T v l

variable {α:Type} {f:α→Value}

theorem QG.lt {w:World} {base:Nat} {T:TypeId} {v:Value} {l:List α} (h:QG f w base T v l):∀k,v.ownBlock=some k→base≤k∧k < w.heap.size:=by
 obtain ⟨g,off,cap,cur,rfl,hb,hg,-⟩:=h;intro k hk;simp only [Value.ownBlock,Option.some.injEq] at hk;subst hk;exact ⟨hb,(Array.getElem?_eq_some_iff.1 hg).1⟩

theorem QG.below {w w':World} {base:Nat} {T:TypeId} {v:Value} {l:List α} (h:QG f w base T v l) (hb:Below w.heap.size w w'):QG f w' base T v l:=by
 obtain ⟨g,off,cap,cur,e,h1,hg,r⟩:=h;exact ⟨g,off,cap,cur,e,h1,(hb.block g (Array.getElem?_eq_some_iff.1 hg).1).trans hg,r⟩

theorem QG.kept {w w':World} {base:Nat} {T:TypeId} {v:Value} {l:List α} (h:QG f w base T v l) {row:Option Nat} (hg:w.grownBy w' row) (hne:∀k,v.ownBlock=some k→row≠some k):QG f w' base T v l:=by
 obtain ⟨g,off,cap,cur,rfl,h1,hh,r⟩:=h;exact ⟨g,off,cap,cur,rfl,h1,(hg.block g (Array.getElem?_eq_some_iff.1 hh).1 (fun e=>hne g rfl e.symm)).trans hh,r⟩

theorem QG.head {w:World} {base:Nat} {T:TypeId} {v:Value} {z:α} {l:List α} (h:QG f w base T v (z::l)):∃g off cap,v=.slice (some ⟨g,off,none⟩) (l.length+1) cap∧l.length+1≤cap∧cap≤maxLen∧w.cell? ⟨g,off,none⟩=some (f z):=by
 obtain ⟨g,off,cap,cur,rfl,h1,hh,h2,h3,h4,hc⟩:=h;refine ⟨g,off,cap,rfl,h2,h3, ?_⟩
 have:=hc 0 z rfl
 simp only [World.cell?,hh]
 simpa using this

theorem QG.rest {w:World} {base:Nat} {T:TypeId} {g off cap:Nat} {z:α} {l:List α} (h:QG f w base T (.slice (some ⟨g,off,none⟩) (l.length+1) cap) (z::l)):QG f w base T (.slice (if cap=1 then some ⟨g,off,none⟩ else some ⟨g,off+1,none⟩) l.length (cap - 1)) l:=by
 obtain ⟨g',off',cap',cur,e,h1,hh,h2,h3,h4,hc⟩:=h;cases e;simp only [List.length_cons] at h2;by_cases h:cap=1
 ·rw [if_pos h];have hl:l=[]:=List.eq_nil_of_length_eq_zero (by omega);subst hl;exact ⟨g,off,cap - 1,cur,rfl,h1,hh,by simp,by omega,by omega,fun j z hj=>by simp at hj⟩
 ·rw [if_neg h];refine ⟨g,off+1,cap - 1,cur,rfl,h1,hh,by omega,by omega,by omega,fun j y hj => ?_⟩
  have:=hc (j+1) y (by simpa using hj)
  rw [show off+1+j=off+(j+1) by omega];exact this

theorem QG.made {w:World} {base g:Nat} {T:TypeId} {z:α} (h:w.heap[g]? = some (.cells #[f z] T)) (hb:base≤g):QG f w base T (.slice (some ⟨g,0,none⟩) 1 1) [z] :=
 ⟨g,0,1,_,rfl,hb,h,Nat.le_refl _,by unfold maxLen; omega,by simp,fun j y hj=>by
  cases j with
  | zero=>simp at hj; subst hj; rfl
  | succ j=>simp at hj⟩

theorem QOwn.made {w:World} {base g:Nat} {T:TypeId} {z:Int} (h:w.heap[g]? = some (.cells #[.int .i64 z] T)) (hb:base≤g):QOwn w base T (.slice (some ⟨g,0,none⟩) 1 1) [z]:=QG.made (f:=encQ) h hb

theorem QOwn.below {w w':World} {base:Nat} {T:TypeId} {v:Value} {l:List Int} (h:QOwn w base T v l) (hb:Below w.heap.size w w'):QOwn w' base T v l:=QG.below h hb
theorem QOwn.kept {w w':World} {base:Nat} {T:TypeId} {v:Value} {l:List Int} (h:QOwn w base T v l) {row:Option Nat} (hg:w.grownBy w' row) (hne:∀k,v.ownBlock=some k→row≠some k):QOwn w' base T v l:=QG.kept h hg hne
theorem QOwn.head {w:World} {base:Nat} {T:TypeId} {v:Value} {z:Int} {l:List Int} (h:QOwn w base T v (z::l)):∃g off cap,v=.slice (some ⟨g,off,none⟩) (l.length+1) cap∧l.length+1≤cap∧cap≤maxLen∧w.cell? ⟨g,off,none⟩=some (.int .i64 z):=QG.head h
theorem QOwn.rest {w:World} {base:Nat} {T:TypeId} {g off cap:Nat} {z:Int} {l:List Int} (h:QOwn w base T (.slice (some ⟨g,off,none⟩) (l.length+1) cap) (z::l)):QOwn w base T (.slice (if cap=1 then some ⟨g,off,none⟩ else some ⟨g,off+1,none⟩) l.length (cap - 1)) l:=QG.rest h

theorem zg5 (w:World) (base:Nat) (t ty T:TypeId) (i:TypeInfo) (zz:Value) (ht:P.underlying t=some (.slice T)) (hi:P.info? T=some i) (hz:i.zero=some zz) (hsize:i.size=1) (hby:i.bytes=8) (hzs:zz.cells.size=1)
  (v:Value) (l:List α) (hq:QG f w base T v l) (gb ob c:Nat) (y:α) (hy:w.cell? ⟨gb,ob,none⟩=some (f y)) (hf1:(f y).oneCell'=true) (hn:l.length+1≤16777216) (hbase:base≤w.heap.size) :
  ∃v' w',(Builtin.append_ #[t,t] ty #[v,.slice (some ⟨gb,ob,none⟩) 1 c]).run P w=.ok v' w'∧QG f w' base T v' (l++[y])∧w.grownBy w' v.ownBlock∧(v'.ownBlock=v.ownBlock∨v'.ownBlock=some w.heap.size):=by
 obtain ⟨g,off,cap,cur,rfl,h1,hh,h2,h3,h4,hc⟩:=hq;have hnews:∀j u,([f y]:List Value)[j]? = some u→w.cell? ((⟨gb,ob,none⟩:Addr).add j)=some u:=by
  intro j u hj;cases j with
  | zero=>simp at hj; subst hj; simpa [Addr.add_lit] using hy
  | succ j=>simp at hj
 have hone:∀u∈([f y]:List Value),u.oneCell'=true:=by intro u hu; simp at hu; subst hu; exact hf1
 by_cases hroom:l.length+1≤cap
 ·have hr:=zeS (P:=P) w t ty T i ht hi g off l.length cap cur hh ⟨gb,ob,none⟩ 1 c [f y] (by rw [hsize]; rfl) hnews hone hroom (by rw [hsize]; simp; omega);refine ⟨_,_,hr,⟨g,off,cap,_,by rw [List.length_append]; rfl,h1,setRow_heap w g cur _ T _ hh,by rw [List.length_append]; exact hroom,h3, ?_, ?_⟩,⟨rfl,rfl,rfl,by simp,fun k _ hk=>setRow_other w g k _ (fun e=>hk (by simp [Value.ownBlock,e]))⟩,.inl rfl⟩
  ·simp only [List.size_toArray,List.length_append,List.length_take,List.length_drop,Array.length_toList,List.length_cons,List.length_nil];omega
  ·intro j u hj;rw [hsize,Nat.mul_one];simp only [List.getElem?_toArray];by_cases hjl:j < l.length
   ·rw [List.getElem?_append_left (by simp; omega),List.getElem?_append_left (by simp; omega),List.getElem?_take_of_lt (by omega)];rw [List.getElem?_append_left hjl] at hj
    have:=hc j u hj
    simpa using this
   ·rw [List.getElem?_append_right (by omega)] at hj;have hj0:j=l.length:=by
     have:=(List.getElem?_eq_some_iff.1 hj).1
     simp at this
     omega
    subst hj0
    simp at hj
    subst hj;have hlen:(cur.toList.take (off+l.length)).length=off+l.length:=by have hs:cur.toList.length=cur.size:=Array.length_toList; rw [List.length_take]; omega
    rw [List.getElem?_append_left (by rw [List.length_append,hlen]; simp),List.getElem?_append_right (by rw [hlen]; omega),hlen,Nat.sub_self]
    rfl
 ·have hcl:cap=l.length:=by omega
  subst hcl;have holds:∀j u,(l.map f)[j]? = some u→w.cell? ((⟨g,off,none⟩:Addr).add j)=some u:=by
   intro j u hj;rw [List.getElem?_map] at hj;cases hx:l[j]? with
   | none=>rw [hx] at hj; cases hj
   | some x =>
    rw [hx] at hj;cases hj
    have:=hc j x hx
    simp only [Addr.add_lit,World.cell?,hh]
    simpa using this
  have hr:=run_append_grow (P:=P) w t ty T i zz ht hi hz ⟨g,off,none⟩ l.length l.length (l.map f) (by rw [hsize]; simp) holds ⟨gb,ob,none⟩ 1 c [f y] (by rw [hsize]; rfl) hnews (by omega) (by omega) (growslice_fits (by omega) (by rw [hby]; omega));have hge:=grownCap_ge w (l.length+1) l.length T;have hcm:grownCap w (l.length+1) l.length T≤maxLen:=grownCap_le_maxLen w (l.length+1) l.length T (by unfold maxLen; omega);refine ⟨_,_,hr,⟨w.heap.size,0,_,_,by rw [List.length_append]; rfl,hbase,heap_alloc_new w.drew _,by rw [List.length_append]; exact hge,hcm, ?_, ?_⟩,⟨rfl,rfl,rfl,by simp,fun k hk _=>(zl w.drew _).block k (by simpa using hk)⟩,.inr rfl⟩
  ·simp only [Array.size_append,List.size_toArray,size_zeroCells,hzs,List.length_map,List.length_cons,List.length_nil];omega
  ·intro j u hj;rw [Nat.zero_add,Array.getElem?_append_left (by
    have:=(List.getElem?_eq_some_iff.1 hj).1
    simp at this ⊢
    omega)]
   rw [← Array.getElem?_toList,Array.toList_append,List.toList_toArray,List.toList_toArray,show (l.map f)++[f y]=(l++[y]).map f by simp,List.getElem?_map,hj]
   rfl

theorem zeU (w:World) {ops:Array Oper} {rest:List Oper} {o:Oper} {a:Act} {Q:Exit→Act→World→Prop} (hgd:o.guard=none) (s x:Operand) (t T:TypeId)
  (ho:o.op=Op.call { callee:=Callee.builtin Builtin.append,args:=#[s,x],argTypes:=#[t,t] }) (base:Nat) {zz:Value}
  (ht:P.underlying t=some (TypeDesc.slice T)) (hinfo:(P.info? T).map (fun i=>(i.zero,i.size,i.bytes))=some (some zz,1,8)) (hzs:zz.cells.size=1)
  (v:Value) (l:List α) (hs:a.eval s=v) (hq:QG f w base T v l) (gb ob c:Nat) (y:α) (hx:a.eval x=.slice (some ⟨gb,ob,none⟩) 1 c) (hy:w.cell? ⟨gb,ob,none⟩=some (f y)) (hf1:(f y).oneCell'=true) (hn:l.length+1≤16777216) (hbase:base≤w.heap.size)
  (h:∀v' w',QG f w' base T v' (l++[y])→w.grownBy w' v.ownBlock→(v'.ownBlock=v.ownBlock∨v'.ownBlock=some w.heap.size)→wpList P ops Q rest (a.put o.dst v') w'):wpList P ops Q (o::rest) a w:=by
 obtain ⟨i,hi,hz,hsize,hby⟩:=zdI hinfo;obtain ⟨v',w',hr,h2,h3,h4⟩:=zg5 (P:=P) w base t o.type T i zz ht hi hz hsize hby hzs v l hq gb ob c y hy hf1 hn hbase;refine wpList_plain hgd fun _ hK => ?_
 unfold Oper.wp execOp;simp only [ho,resolve,invoke,builtin,Sem.run_bind,Sem.run_pure,Result.andThen_ok,List.map_toArray,List.map_cons,List.map_nil,hs,hx,hr];exact hK _ _ (h v' w' h2 h3 h4)

theorem zfT (w:World) {ops:Array Oper} {rest:List Oper} {o:Oper} {a:Act} {Q:Exit→Act→World→Prop} (hgd:o.guard=none) (s x:Operand) (t T:TypeId)
  (ho:o.op=Op.call { callee:=Callee.builtin Builtin.append,args:=#[s,x],argTypes:=#[t,t] }) (base:Nat) {zz:Value}
  (ht:P.underlying t=some (TypeDesc.slice T)) (hinfo:(P.info? T).map (fun i=>(i.zero,i.size,i.bytes))=some (some zz,1,8)) (hzs:zz.cells.size=1)
  (v:Value) (l:List Int) (hs:a.eval s=v) (hq:QOwn w base T v l) (gb ob c:Nat) (y:Int) (hx:a.eval x=.slice (some ⟨gb,ob,none⟩) 1 c) (hy:w.cell? ⟨gb,ob,none⟩=some (.int .i64 y)) (hn:l.length+1≤16777216) (hbase:base≤w.heap.size)
  (h:∀v' w',QOwn w' base T v' (l++[y])→w.grownBy w' v.ownBlock→wpList P ops Q rest (a.put o.dst v') w'):wpList P ops Q (o::rest) a w :=
 zeU (f:=encQ) w hgd s x t T ho base ht hinfo hzs v l hs hq gb ob c y hx hy rfl hn hbase (fun v' w' h1 h2 _=>h v' w' h1 h2)
end

end

theorem znv:(Tryz.prog.info? 94).map (fun i=>(i.zero,i.size,i.bytes))=some (some (.agg #[.int .i64 0,.int .i64 0]),evF.k,16):=by kernel_rfl

theorem zgV (C:Nat) (a0:Option Addr) (l0 c0:Nat) (z0:List Int) (most:Int) (w:World) (hc:Cur w C a0 l0 c0 z0) (hm0:0 < most) (hm:most≤1000) :
  Calls Tryz.prog 22 #[.pointer (some ⟨C,0,none⟩),.int .i64 most] w fun e w'=>∃(ao:Option Addr) (cap:Nat) (l:List EV),e=.returned (.slice ao l.length cap)∧l.length≤1000∧w'.ownsRow w.heap.size 94 2 (.slice ao l.length cap) l.length (evF.all l)∧Went w w' C a0 l0 c0 z0:=by
 have hlt:=hc.lt;go_enter Tryz.func22,Tryz.ntmps22;go_wp2_with fail
 generalize hw1:w.alloc (Obj.cells #[] 94)=w1;have b1:=zb hw1;have o1:=zaG evF w w1 94 w.heap.size (zk hw1) (Nat.le_refl _);have wn1:=Went.start hc b1;clear hw1 b1;refine (zaj C a0 l0 c0 z0 most _ wn1.cur (by omega)).mono ?_;rintro e w2 ⟨x,rfl,hx0,hx1,-,wt⟩;have hx1:=hx1 hm0;obtain ⟨xn,rfl⟩:∃n:Nat,x=(n:Int):=⟨x.toNat,by omega⟩;have HXN:Hid (xn≤1000):=hide (by omega);have wn2:=wn1.trans wt;have o2:=zL o1 wt.grown (fun b hb=>by cases hb; exact hlt);clear o1 wn1 wt hx0 hx1;go_wp2_with fail
 go_loopw [5,6] (fun o i wr=>∃(m:Nat) (ao:Option Addr) (cap:Nat) (l:List EV),i=.int .i64 (m:Int)∧l.length+m≤1000∧o=.slice ao l.length cap∧wr.ownsRow w.heap.size 94 2 (.slice ao l.length cap) l.length (evF.all l)∧Went w wr C a0 l0 c0 z0) (fun _ i _=>(intOf i).toNat)
 case atStart=>exact ⟨xn,_,_,[],rfl,by simpa using HXN.out,rfl,o2,wn2⟩
 case round =>
  obtain ⟨m,ao,cap,l,rfl,hlm,rfl,ok,wk⟩:=hrel;clear o2 wn2;have HLM:=hide hlm;clear hlm;by_cases hm1:0 < (m:Int)
  ·generalize hwa:wr.alloc (Obj.cells #[.int .i64 1,.int .i64 1,.int .i64 1,.int .i64 2,.int .i64 2,.int .i64 2,.int .i64 2,.int .i64 3,.int .i64 4,.int .i64 5,.int .i64 6] 3)=wa;have ba:=zb hwa;have ka:=zk hwa;have hCa:C < wr.heap.size:=wk.cur.lt;have ok:=zh ok ba;have wk:=wk.made ba;(go_wp2_with fail);refine (zef C a0 l0 c0 z0 [1,1,1,2,2,2,2,3,4,5,6] _ _ _ wk.cur hCa ka rfl (by simp) (by simp)).mono ?_;rintro e w3 ⟨kd,-,rfl,wt⟩;have ok:=zL ok wt.grown (fun b hb=>by cases hb; exact hlt);have wk:=wk.trans wt;clear wt ka ba hwa hCa;(go_wp2_with fail);refine (zaj C a0 l0 c0 z0 4 _ wk.cur (by omega)).mono ?_;rintro e w4 ⟨i,rfl,-,-,-,wt⟩;have ok:=zL ok wt.grown (fun b hb=>by cases hb; exact hlt);have wk:=wk.trans wt;clear wt;generalize hwb:w4.alloc (Obj.cells #[.int .i64 kd,.int .i64 i] 94)=wb;have bb:=zb hwb;have kb:=zk hwb;have gone:GRow evF wb (some ⟨w4.heap.size,0,none⟩) 1 1 [⟨kd,i⟩]:=zC (F:=evF) (zc7 evF (x:=⟨kd,i⟩) (base:=0) kb rfl (Nat.zero_le _));have ok:=zh ok bb;have wk:=wk.made bb;have WK:=hide wk;have hbA:=wk.grown.size;have HL1:Hid ((l++[(⟨kd,i⟩:EV)]).length=l.length+1):=hide (by rw [List.length_append]; rfl);clear kb bb;go_wp2_with (at_builtin; refine zK (F:=evF) _ rfl _ _ 29 94 rfl w.heap.size Tryz.underlying29 znv rfl (by decide) _ l.length l rfl ok (some ⟨w4.heap.size,0,none⟩) 1 1 [⟨kd,i⟩] rfl gone (by have:=HLM.out; omega) hbA ?_)
   intro a7 c7 w7 how hr hgr hb7;rw [← HL1.out] at how;have HO:Hid (w7.ownsRow w.heap.size 94 2 (.slice a7 (l++[(⟨kd,i⟩:EV)]).length c7) (l++[(⟨kd,i⟩:EV)]).length (evF.all (l++[(⟨kd,i⟩:EV)]))):=hide how;have HW:=hide (WK.out.madeAt hb7 hlt (Nat.le_refl _));have hmb:(m:Int)≤1000:=by have:=HLM.out; omega
   clear how hr hgr hb7 gone hbA ok wk hwb;go_wp2
   go_roundw
   case rel=>exact ⟨m - 1,a7,c7,l++[⟨kd,i⟩],by rw [show ((m - 1:Nat):Int)=(m:Int) - 1 by omega],by rw [HL1.out]; have:=HLM.out; omega,by rw [HL1.out],HO.out,HW.out⟩
   case measure=>simp [intOf]; omega
  ·have HO:=hide ok;have HW:=hide wk;clear ok wk;go_wp2;go_ret;exact ⟨ao,cap,l,rfl,by have:=HLM.out; omega,HO.out,HW.out⟩

theorem zmq (ao:Option Addr) (n c:Nat) (most:Int) (w:World) (hn:n≤1048576) (hm:0≤most) (hm2:most≤1000) :
  Calls Tryz.prog 21 #[.slice ao n c,.int .i64 most] w fun e w'=>∃x:Int,e=.returned (.int .i64 x)∧0≤x∧x≤most∧w'=w:=by
 have hd:(n:Int).tdiv 12=(n:Int) / 12:=Int.tdiv_eq_ediv_of_nonneg (by omega);by_cases h:3+(n:Int) / 12 > most
 ·go_enter Tryz.func21,Tryz.ntmps21;go_wp2;go_ret;exact ⟨most,rfl,hm,Int.le_refl _,rfl⟩
 ·go_enter Tryz.func21,Tryz.ntmps21;go_wp2;go_ret;exact ⟨_,rfl,by omega,by omega,rfl⟩

def idsTo (s:Int):Nat→List Int
 | 0=>[]
 | k+1=>idsTo s k++[1+(s+(k:Int)*3) % 7]
theorem zbV (s:Int):∀k,(idsTo s k).length=k
 | 0=>rfl
 | k+1=>by rw [idsTo,List.length_append,zbV s k]; rfl

theorem zj2 (C:Nat) (a0:Option Addr) (l0 c0:Nat) (z0:List Int) (m:Nat) (w:World) (hc:Cur w C a0 l0 c0 z0) (hm:m≤100) :
  Calls Tryz.prog 39 #[.pointer (some ⟨C,0,none⟩),.int .i64 m] w fun e w'=>∃(s:Int) (ao:Option Addr) (cap:Nat),0≤s∧s < 7∧e=.returned (.slice ao m cap)∧w'.ownsRow w.heap.size 3 1 (.slice ao m cap) m (intF.all (idsTo s m))∧Went w w' C a0 l0 c0 z0:=by
 have hlt:=hc.lt;go_enter Tryz.func39,Tryz.ntmps39;go_wp2_with fail
 generalize hw1:w.alloc (Obj.cells #[] 3)=w1;have b1:=zb hw1;have o1:=zaG intF w w1 3 w.heap.size (zk hw1) (Nat.le_refl _);have wn1:=Went.start hc b1;clear hw1 b1;refine (zaj C a0 l0 c0 z0 7 _ wn1.cur (by omega)).mono ?_;rintro e w2 ⟨s,rfl,hs0,hs7,-,wt⟩;have hs7:s < 7:=hs7 (by omega);have wn2:=wn1.trans wt;have o2:=zL o1 wt.grown (fun b hb=>by cases hb; exact hlt);clear o1 wn1 wt;go_wp2_with fail
 go_loopw [5,7] (fun o i wr=>∃(k:Nat) (ao:Option Addr) (cap:Nat),k≤m∧i=.int .i64 k∧o=.slice ao k cap∧wr.ownsRow w.heap.size 3 1 (.slice ao k cap) k (intF.all (idsTo s k))∧Went w wr C a0 l0 c0 z0) (fun _ i _=>m - (intOf i).toNat)
 case atStart=>exact ⟨0,_,_,Nat.zero_le _,rfl,rfl,o2,wn2⟩
 case round =>
  obtain ⟨k,ao,cap,hk,rfl,rfl,ok,wk⟩:=hrel;clear o2 wn2;by_cases hlt2:k < m
  ·have hmm:(s+(k:Int)*3).tmod 7=(s+(k:Int)*3) % 7:=Int.tmod_eq_emod_of_nonneg (by omega);have hr0:0≤(s+(k:Int)*3) % 7∧(s+(k:Int)*3) % 7 < 7:=by omega
   have hb9:=wk.grown.size;have gone:GRow intF (wr.alloc (.cells #[.int .i64 (1+(s+(k:Int)*3) % 7)] 3)) (some ⟨wr.heap.size,0,none⟩) 1 1 [1+(s+(k:Int)*3) % 7]:=zb8 intF wr _ _ _ rfl;have oA:=zh ok (zl wr (.cells #[.int .i64 (1+(s+(k:Int)*3) % 7)] 3));have WA:=hide (wk.made (zl wr (.cells #[.int .i64 (1+(s+(k:Int)*3) % 7)] 3)));have hbA:w.heap.size≤(wr.alloc (.cells #[.int .i64 (1+(s+(k:Int)*3) % 7)] 3)).heap.size:=by rw [World.size_alloc]; omega
   go_wp2_with (at_builtin; refine zK (F:=intF) _ rfl _ _ 35 3 rfl w.heap.size Tryz.underlying35 Tryz.infoI64 rfl (by decide) _ k (idsTo s k) rfl oA (some ⟨wr.heap.size,0,none⟩) 1 1 [1+(s+(k:Int)*3) % 7] rfl gone (by omega) hbA ?_)
   intro a7 c7 w7 how hr hgr hb7;have HO:Hid (w7.ownsRow w.heap.size 3 1 (.slice a7 (k+1) c7) (k+1) (intF.all (idsTo s (k+1)))):=hide how;have HW:=hide (WA.out.madeAt hb7 hlt (Nat.le_refl _));clear how hr hgr hb7 gone oA hbA ok wk;go_wp2
   go_roundw
   case rel=>exact ⟨k+1,a7,c7,by omega,by go_num,rfl,HO.out,HW.out⟩
   case measure=>simp [intOf]; omega
  ·have hkm:k=m:=by omega
   subst hkm;have HO:=hide ok;have HW:=hide wk;have HS:=hide (And.intro hs0 hs7);clear ok wk;go_wp2;go_ret;exact ⟨s,ao,cap,HS.out.1,HS.out.2,rfl,HO.out,HW.out⟩

end Go.Proofs.YtkaefmfopejbaaaGreat
