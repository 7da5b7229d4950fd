/-
  Packed: NetMarkM StepFit StepFitS ToNetO.
-/
import Derived.Test.YtpaneiaflfegoaaGreatPSK01
import Derived.Test.YtpaneiaflfegoaaGreatPSK23
import Derived.Test.YtpaneiaflfegoaaGreatPSK27
import Derived.Test.YtpaneiaflfegoaaGreatPSK28
import Derived.Test.YtpaneiaflfegoaaGreatPSK30
import Derived.Test.YtpaneiaflfegoaaGreatPSK32
import Derived.Test.YtpaneiaflfegoaaGreatPSK36
import Derived.Test.YtpaneiaflfegoaaGreatPSNetIn
namespace Go.Proofs.YtpaneiaflfegoaaGreat
set_option maxRecDepth 100000
set_option maxHeartbeats 16000000
open Go.RowKit

def zeY (k:Int):SY:=⟨k,(k+1) % 3 == 0,⟨k+1+1,k+1+1+1,k+1+1+1+1,k+1+1+1+1+1,k+1+1+1+1+1+1⟩⟩
def zbH (k:Int) (n:Nat):List SY:=(List.range n).map fun (i:Nat)=>zeY (k+7*i)

theorem zfA (k:Int) (n:Nat):(zbH k n).length=n:=by simp [zbH]
theorem zhg (k:Int) (j:Nat):zbH k (j+1)=zbH k j++[zeY (k+7*j)]:=by simp [zbH,List.range_succ]
theorem zjA (k:Int) (n j:Nat) (h:j < n):(zbH k n)[j]?=some (zeY (k+7*j)):=by simp [zbH,List.getElem?_map,List.getElem?_range h]

theorem zhf (base g n cap:Nat) (l:List SY) (k:Int) (w:World) (hown:w.ownsRow base 105 7 (.slice (some ⟨g,0,none⟩) n cap) n (sayF.all l)) (hn:n≤16777216) (hk0:0≤k) (hk1:k≤1099511627776) :
  Calls Tryz.prog 41 #[.slice (some ⟨g,0,none⟩) n cap,.int .i64 k] w fun r w'=>r=.returned (.int .i64 (k+7*n))∧w'.ownsRow base 105 7 (.slice (some ⟨g,0,none⟩) n cap) n (sayF.all (zbH k n))∧w.grownBy w' (some g):=by
 have hl:l.length=n:=(zH (F:=sayF) hown).size;go_enter Tryz.func41,Tryz.ntmps41;go_wp2
 go_loopw [1,5] (fun m i wr=>∃j:Nat,j≤n∧i=.int .i64 j∧m=.int .i64 (k+7*j)∧wr.ownsRow base 105 7 (.slice (some ⟨g,0,none⟩) n cap) n (sayF.all (zbH k j++l.drop j))∧w.grownBy wr (some g)) (fun _ i _=>n - (intOf i).toNat)
 case atStart=>exact ⟨0,Nat.zero_le _,rfl,by simp,by simpa [zbH] using hown,World.grownBy.refl _ _⟩
 case round =>
  obtain ⟨j,hj,rfl,rfl,how,hg⟩:=hrel;by_cases hlt:j < n
  ·obtain ⟨x,hx⟩:∃x,l[j]?=some x:=⟨l[j]'(by omega),List.getElem?_eq_getElem (by omega)⟩;have hdr:l.drop j=x::l.drop (j+1):=by
    obtain ⟨h,rfl⟩:=List.getElem?_eq_some_iff.1 hx;exact List.drop_eq_getElem_cons h
   rw [hdr] at how;have hlj:=zfA k j;have hz:(zbH k j++x::l.drop (j+1))[j]?=some x:=by rw [List.getElem?_append_right (by omega),hlj,Nat.sub_self]; rfl
   obtain ⟨⟨t0,t1,t2,t3,t4,t5,t6⟩,f0,f1,f2,f3,f4,f5,f6⟩:=zgt how hz;have o3:=zjO (y:=zeY (k+7*j)) how;rw [hlj] at o3;have HO3:=hide o3;have HG:=hide (zA hg (zic (w:=wr) (g:=g) (j:=j*7) (y:=zeY (k+7*j))));have HM:=hide (zhg k j);have hm:0≤k+7*(j:Int)∧k+7*(j:Int)≤2199023255552:=by omega
   clear how hg hown o3 hz hdr;generalize hK:k+7*(j:Int)=K at *;go_wp2
   go_roundw
   case rel=>exact ⟨j+1,by omega,by go_num,by simp; omega,by rw [HM.out,List.append_assoc]; exact HO3.out,HG.out⟩
   case measure=>simp [intOf]; omega
  ·have hj':j=n:=by omega
   subst hj';rw [List.drop_eq_nil_of_le (by omega),List.append_nil] at how;have HO:=hide how;clear how hown;go_wp2;go_ret;exact ⟨rfl,HO.out,hg⟩

theorem zeA (base:Nat) (ao:Option Addr) (n cap:Nat) (l:List SY) (k:Int) (w:World) (hown:w.ownsRow base 105 7 (.slice ao n cap) n (sayF.all l)) (hn:n≤16777216) (hk0:0≤k) (hk1:k≤1099511627776) :
  Calls Tryz.prog 41 #[.slice ao n cap,.int .i64 k] w fun r w'=>r=.returned (.int .i64 (k+7*n))∧w'.ownsRow base 105 7 (.slice ao n cap) n (sayF.all (zbH k n))∧w.grownBy w' (Value.slice ao n cap).ownBlock:=by
 rcases hown.2 with ⟨e,h0⟩ | ⟨g,cap',cur,e,-⟩
 ·cases e;refine (zgf k 0 w).mono ?_;rintro r w' ⟨rfl,rfl⟩;exact ⟨by simp,by simpa [zbH,Flat.all] using World.ownsRow_nil w' base 105 7,World.grownBy.refl _ _⟩
 ·cases e;exact zhf base g n cap l k w hown hn hk0 hk1

theorem zf1 (ao:Option Addr) (n cap:Nat) (k:Int) (w:World) (h1:GRow sayF w ao n cap (zbH k n)) (hn:n≤16777216) (hk0:0≤k) (hk1:k≤1099511627776) :
  Calls Tryz.prog 44 #[.slice ao n cap,.int .i64 k] w fun r w'=>r=.returned (.int .i64 (k+7*n))∧Below w.heap.size w w':=by
 go_enter Tryz.func44,Tryz.ntmps44;go_wp2
 go_loopw [1,5] (fun m i wr=>∃j:Nat,j≤n∧i=.int .i64 j∧m=.int .i64 (k+7*j)∧Below w.heap.size w wr) (fun _ i _=>n - (intOf i).toNat)
 case atStart=>exact ⟨0,Nat.zero_le _,rfl,by simp,Below.refl _ _⟩
 case round =>
  obtain ⟨j,hj,rfl,rfl,hb⟩:=hrel;by_cases hlt:j < n
  ·obtain ⟨x,b,off,hx,rfl,c0,c1,c2,c3,c4,c5,c6⟩:=zdE (h1.below hb) j hlt;rw [zjA k n j hlt] at hx;cases hx;have hm:0≤k+7*(j:Int)∧k+7*(j:Int)≤2199023255552:=by omega
   unfold zeY at c0 c1 c2 c3 c4 c5 c6;generalize hK:k+7*(j:Int)=K at *;go_wp2
   go_roundw
   case rel=>exact ⟨j+1,by omega,by go_num,by simp; omega,hb⟩
   case measure=>simp [intOf]; omega
  ·have hj':j=n:=by omega
   subst hj';go_wp2;go_ret;exact ⟨rfl,hb⟩

theorem zg8 (base:Nat) (ao:Option Addr) (n cap:Nat) (l:List BV) (K0:Int) (w:World) (h:BOs w base ao n cap l) (hk0:0 < K0) (hT:endVs K0 l≤16777216) :
  Calls Tryz.prog 39 #[.slice ao n cap,.int .i64 K0] w fun e w'=>e=.returned (.int .i64 (endVs K0 l))∧BOs w' base ao n cap (zaX K0 l)∧Only (allB ao l) w w':=by
 rcases h.row.2 with ⟨e,h0⟩ | ⟨g,cap',cur,e,-⟩
 ·cases e;have hl:l=[]:=List.eq_nil_of_length_eq_zero h.grow.size;subst hl;refine (zec K0 0 w).mono ?_;rintro r w' ⟨rfl,rfl⟩;exact ⟨rfl,h,Only.refl _ _⟩
 ·cases e;exact ziB base g n cap l K0 w h hk0 hT

def markM (M:NV):NV:={ M with bs:=zaX 1 M.bs,ls:=zbG (endVs 1 M.bs) M.ln,ss:=zbH (endVs 1 M.bs+4*M.ln) M.sn }
def endM (M:NV):Int:=endVs 1 M.bs+4*M.ln+7*M.sn
def NV.blksA (M:NV):List Nat:=allB M.ba M.bs++(blkL M.la++blkL M.sa)
def NV.Fits (M:NV):Prop:=endVs 1 M.bs≤16777216∧M.ln≤1048576∧M.sn≤1048576

theorem NOwn.blk {w:World} {base:Nat} {M:NV} (h:NOwn w base M):∀b∈M.blksA,base≤b∧b < w.heap.size:=by
 intro b hb;rcases List.mem_append.1 hb with hb | hb
 ·exact h.b.blk b hb
 ·rcases List.mem_append.1 hb with hb | hb
  ·exact h.l.lt b (zS.2 hb)
  ·exact h.s.lt b (zS.2 hb)

theorem zdf {w:World} {base base' k n0 m:Nat} {T:TypeId} {a:Option Addr} {n c:Nat} {xs:List Value} {ao:Option Addr} {cap:Nat} {l:List BV} (hs:w.ownsRow base' T k (.slice a n c) n0 xs) (hb:BOs w base ao m cap l) (h0:(64:Nat)≠T) (h1:(103:Nat)≠T) (h2:(149:Nat)≠T) (h3:(184:Nat)≠T) (h4:(3:Nat)≠T):∀b∈blkL a,b∉allB ao l:=by
 intro b hb';rcases hs.2 with ⟨e,_⟩ | ⟨g,cap',cur,e,_,hh,_⟩
 ·cases e':a with
  | none=>rw [e'] at hb'; cases hb'
  | some q=>rw [e'] at e; cases e
 ·cases e':a with
  | none=>rw [e'] at hb'; cases hb'
  | some q =>
   rw [e'] at e hb';cases e
   simp [blkL] at hb'
   subst hb';exact ziS hb hh h0 h1 h2 h3 h4

theorem NOwn.box_apart {w:World} {base X:Nat} {M:NV} {cs:Array Value} (h:NOwn w base M) (hX:w.heap[X]?=some (.cells cs 34)):X∉M.blksA:=by
 intro hm;rcases List.mem_append.1 hm with hm | hm
 ·exact ziS h.b hX (by decide) (by decide) (by decide) (by decide) (by decide) hm
 ·rcases List.mem_append.1 hm with hm | hm
  ·exact zz h.l hX (by decide) X (zS.2 hm) rfl
  ·exact zz h.s hX (by decide) X (zS.2 hm) rfl

theorem NOwn.only {bs:List Nat} {w w':World} {base:Nat} {M:NV} (h:NOwn w base M) (ho:Only bs w w') (hn:∀b∈M.blksA,b∉bs):NOwn w' base M :=
 ⟨h.b.only ho (fun b hb=>hn b (List.mem_append_left _ hb)),ho.own h.l (fun k hk=>hn k (List.mem_append_right _ (List.mem_append_left _ (zS.1 hk)))),ho.own h.s (fun k hk=>hn k (List.mem_append_right _ (List.mem_append_right _ (zS.1 hk))))⟩

theorem zef (base:Nat) (M:NV) (w:World) (h:NOwn w base M) (hf:M.Fits) :
  Calls Tryz.prog 11 #[.agg #[.slice M.ba M.bn M.bc,.slice M.la M.ln M.lc,.slice M.sa M.sn M.sc],.int .i64 1] w fun e w'=>e=.returned (.int .i64 (endM M))∧NOwn w' base (markM M)∧Only M.blksA w w':=by
 have hKb:=zcy M.bs 1;obtain ⟨hT,hl,hs⟩:=hf;generalize hw1:w.alloc (Obj.cells #[.slice M.ba M.bn M.bc,.slice M.la M.ln M.lc,.slice M.sa M.sn M.sc] 34)=w1;have b01:=zb hw1;have k1:=zk hw1;have h1:=h.below b01;obtain ⟨x0,x1,x2⟩:=zy k1;go_enter Tryz.func11,Tryz.ntmps11;go_wp2_with fail
 refine (zg8 base M.ba M.bn M.bc M.bs 1 _ h1.b (by omega) hT).mono ?_;rintro e w2 ⟨rfl,hB2,O2⟩;have k2:=O2.kept k1 (fun hm=>h1.box_apart k1 (List.mem_append_left _ hm));have apL:=zdf h1.l h1.b (by decide) (by decide) (by decide) (by decide) (by decide);have apS:=zdf h1.s h1.b (by decide) (by decide) (by decide) (by decide) (by decide);have l2:=O2.own h1.l (fun k hk=>apL k (zS.1 hk));have s2:=O2.own h1.s (fun k hk=>apS k (zS.1 hk));have HK:=hide hKb;generalize hEV:endVs 1 M.bs=EV at *;clear x0 x1 x2;obtain ⟨x0,x1,x2⟩:=zy k2;go_wp2_with fail
 refine (zee base M.la M.ln M.lc M.ls EV _ l2 (by omega) (by omega) (by omega)).mono ?_;rintro e w3 ⟨rfl,l3,hg3⟩;have O3:=Only.of_grown hg3;have hB3:BOs w3 base M.ba M.bn M.bc (zaX 1 M.bs):=hB2.only O3 (fun b hb hc=>apL b hc (by unfold allB at hb ⊢; rw [zeh] at hb; exact hb));have s3:=zu s2 l2 (by decide) hg3;have k3:=zf k2 hg3 (fun k hk=>zz l2 k2 (by decide) k hk);clear x0 x1 x2;obtain ⟨x0,x1,x2⟩:=zy k3;go_wp2_with fail
 refine (zeA base M.sa M.sn M.sc M.ss (EV+4*M.ln) _ s3 (by omega) (by omega) (by omega)).mono ?_;rintro e w4 ⟨rfl,s4,hg4⟩;have O4:=Only.of_grown hg4;have hB4:BOs w4 base M.ba M.bn M.bc (zaX 1 M.bs):=hB3.only O4 (fun b hb hc=>apS b hc (by unfold allB at hb ⊢; rw [zeh] at hb; exact hb));have l4:=zu l3 s3 (by decide) hg4;have HO:Hid (NOwn w4 base (markM M)):=hide ⟨hB4,by unfold markM; rw [hEV]; exact l4,by unfold markM; rw [hEV]; exact s4⟩;have HN:Hid (Only M.blksA w w4):=hide (zbj (zbj (zbj (Only.of_below (bs:=M.blksA) b01) O2 (fun b hb=>List.mem_append_left _ hb)) O3 (fun b hb=>List.mem_append_right _ (List.mem_append_left _ hb))) O4 (fun b hb=>List.mem_append_right _ (List.mem_append_right _ hb)));have HE:Hid (endM M=EV+4*M.ln+7*M.sn):=hide (by unfold endM; rw [hEV]);clear hB2 hB3 hB4 l2 l3 l4 s2 s3 s4 O2 O3 O4 hg3 hg4 k2 k3 x0 x1 x2 apL apS h1 h hw1 k1 b01;go_wp2;go_ret;exact ⟨by rw [HE.out]; rfl,HO.out,HN.out⟩

theorem zd3 (base:Nat) (M:NV) (w:World) (h:NOwn w base (markM M)) (hf:M.Fits) :
  Calls Tryz.prog 12 #[.agg #[.slice M.ba M.bn M.bc,.slice M.la M.ln M.lc,.slice M.sa M.sn M.sc],.int .i64 1] w fun e w'=>e=.returned (.int .i64 (endM M))∧Below w.heap.size w w':=by
 have hKb:=zcy M.bs 1;obtain ⟨hT,hl,hs⟩:=hf;have hr:=h.row;generalize hw1:w.alloc (Obj.cells #[.slice M.ba M.bn M.bc,.slice M.la M.ln M.lc,.slice M.sa M.sn M.sc] 34)=w1;have b01:=zb hw1;have k1:=zk hw1;obtain ⟨x0,x1,x2⟩:=zy k1;have hr1:=hr.below b01;go_enter Tryz.func12,Tryz.ntmps12;go_wp2_with fail
 refine (zgZ M.ba M.bn M.bc M.bs 1 _ hr1.b hr1.item (by omega) hT).mono ?_;rintro e w2 ⟨rfl,hb2⟩;have k2:=za k1 hb2;have b02:=zc b01 hb2;have hl2:GRow linkF w2 M.la M.ln M.lc (zbG (endVs 1 M.bs) M.ln):=(hr.below b02).l;have HK:=hide hKb;generalize hEV:endVs 1 M.bs=EV at *;have j1:¬(EV < 0):=by omega
 clear x0 x1 x2 hb2;obtain ⟨x0,x1,x2⟩:=zy k2;go_wp2_with fail
 refine (zfk M.la M.ln M.lc EV _ hl2 (by omega) (by omega) (by omega)).mono ?_;rintro e w3 ⟨rfl,hb3⟩;have k3:=za k2 hb3;have b03:=zc b02 hb3;have hs3:GRow sayF w3 M.sa M.sn M.sc (zbH (EV+4*M.ln) M.sn):=by rw [← hEV]; exact (hr.below b03).s
 have j2:¬(EV+4*(M.ln:Int) < 0):=by omega
 clear x0 x1 x2 hb3;obtain ⟨x0,x1,x2⟩:=zy k3;go_wp2_with fail
 refine (zf1 M.sa M.sn M.sc (EV+4*M.ln) _ hs3 (by omega) (by omega) (by omega)).mono ?_;rintro e w4 ⟨rfl,hb4⟩;have b04:=zc b03 hb4;have j3:¬(EV+4*(M.ln:Int)+7*(M.sn:Int) < 0):=by omega
 have HE:Hid (endM M=EV+4*M.ln+7*M.sn):=hide (by unfold endM; rw [hEV]);have HB:=hide b04;clear x0 x1 x2 k3 k2 hr hr1 h hl2 hs3 hb4 b04;go_wp2;go_ret;exact ⟨by rw [HE.out]; rfl,HB.out⟩

theorem zh3 {N:NV} {w:World} (h:zak w N) (hs:sizeN N≤1048576):N.Fits:=by
 obtain ⟨z1,z2,z3,z4⟩:=zei h hs;refine ⟨?_,z2,z3⟩;have h1:=zi2 N.bs 1;have key:∀l:List BV,(∀x∈l,x.Reads w)→(((l.map fun x=>1+x.n+x.fn+x.rn+x.on).sum:Nat):Int)≤l.length+zai l:=by
  intro l
  induction l with
  | nil=>intro _; simp [zai]
  | cons y r ih =>
   intro hr;have h2:=ih (fun x hx=>hr x (by simp [hx]));have o:=hr y (by simp);have q1:=o.ports.size;have q2:=o.f.size;have q3:=o.v.rows.size;have q4:=o.v.own.size;unfold zai at h2 ⊢;simp only [List.map_cons,List.sum_cons,List.length_cons];unfold sizeB at h2 ⊢;omega
 have e:=key N.bs h.item;have e3:=h.b.size;unfold sizeN at hs;omega

def NV.t (N:NV):List BR × List LK × List SY:=(N.brs,N.ls,N.ss)

theorem same_t {N M:NV} (h:M.Same N):M.t=N.t:=by
 have e:M.brs=N.brs:=h.b;unfold NV.t;rw [e,h.l,h.s]
theorem zjW {N M:NV} (h:M.t=N.t):M.Same N:=by
 unfold NV.t at h;simp only [Prod.mk.injEq] at h;exact ⟨h.1,h.2.1,h.2.2⟩

def FitT (a:List BR × List LK × List SY):Prop:=(∀B∈a.1,zG B=true)∧a.1.length≤6∧a.2.1.length≤9∧a.2.2.length≤40

theorem zlh {w:World} {x:BV} (h:x.Reads w) (hb:zG x.B=true):x.Tiny:=by
 obtain ⟨h1,h2,h3,h4,h5,h6,-⟩:=zaD hb;have q1:=h.ports.size;have q2:=h.f.size;have q3:=h.v.rows.size;have q4:=h.v.own.size;have p4:(x.B.ports.length:Int)≤6:=by unfold in3 at h4; simp at h4; omega
 have p5:x.B.f.length≤12:=((zcr _).1 h5).2;have p6:x.B.v.rows.length≤6∧x.B.v.own.length≤6:=by
  unfold zas at h6;simp only [Bool.and_eq_true,decide_eq_true_eq,beq_iff_eq] at h6;exact ⟨h6.1.1.1.2,by have:=h6.1.1.1.1.2; omega⟩
 exact ⟨by omega,by omega,by omega,by omega⟩

theorem zk8 {w w0:World} {N M:NV} (h:zak w M) (h0:zak w0 N) (hf:M.t=N.t∨FitT M.t) (hs:sizeN N≤1048576):M.Fits:=by
 rcases hf with e | ⟨f1,f2,f3,f4⟩
 ·have e':=zjW e;refine zh3 h ?_;have q1:=h.b.size;have q2:=h.l.size;have q3:=h.s.size;have r1:=h0.b.size;have r2:=h0.l.size;have r3:=h0.s.size;have e1:=congrArg List.length e'.b;rw [List.length_map,List.length_map] at e1;have e2:zai M.bs=zai N.bs:=by
   unfold zai
   have:=congrArg (List.map sizeB) e'.b
   rw [List.map_map,List.map_map] at this;exact congrArg List.sum this
  rw [e'.l] at q2;rw [e'.s] at q3;unfold sizeN at hs ⊢;omega
 ·have ht:∀x∈M.bs,x.Tiny:=fun x hx=>zlh (h.item x hx) (f1 x.B (List.mem_map_of_mem hx))
  have hk:=(zkn M.bs ht 1).2;have q2:=h.l.size;have q3:=h.s.size;have f2':M.bs.length≤6:=by have:(M.bs.map BV.B).length≤6:=f2; simpa using this
  have f3':M.ls.length≤9:=f3;have f4':M.ss.length≤40:=f4;exact ⟨by omega,by omega,by omega⟩

structure NV.Sized (N:NV):Prop where
 n:N.bn≤1048576
 l:N.ln≤1048576
 s:N.sn≤1048576
 m:∀x∈N.bs,x.Small20

theorem zaQ {w:World} {N:NV} (h:zak w N) (hs:sizeN N≤1048576):N.Sized:=by
 obtain ⟨z1,z2,z3,z4⟩:=zei h hs;exact ⟨z1,z2,z3,z4⟩

theorem ziI {N:NV} (h:∀x∈N.bs,x.B.Rng):∀B∈N.brs,B.Rg:=by
 intro B hB;obtain ⟨y,hy,rfl⟩:=List.mem_map.1 hB;exact ⟨(h y hy).f,(h y hy).v⟩

theorem za1 {N M M2:NV} {kd i:Int} {q:Bool} (hs:M2.Same N) (h:zal M2 kd i M q):zal N kd i M q:=by
 unfold zal at *;rw [show M2.brs=N.brs from hs.b,hs.l,hs.s] at h;exact h

theorem zkL {P:BR→Prop} {bs:List BR} {ls:List LK} {kd:Int} {s:SY} (h:∀B∈bs,P B) (hf:∀B p v,P B→P (hearB B p v)):∀B∈zbc bs ls kd s,P B:=by
 unfold zbc
 split
 ·unfold zd2
  split
  ·split
   ·exact zcn h (fun B=>hf B _ _)
   ·exact zcn h (fun B=>hf B _ _)
  ·exact h
 ·exact h
theorem zkQ {P:BR→Prop} {bs:List BR} {ls:List LK} {ss:List SY} {kd i:Int} (h:∀B∈bs,P B) (h1:∀B p v,P B→P (hearB B p v)) (h2:∀B p u,P B→P (linkB B p u)) (h3:∀B,P B→P (tickB B)):∀B∈stepB bs ls ss kd i,P B:=by
 unfold stepB
 split
 ·exact zcn h h3
 ·split
  ·unfold zcS
   split
   ·exact zkL h h1
   ·exact h
  ·split
   ·unfold zbF
    split
    ·exact h
    ·split
     ·exact zcn (zcn h (fun B=>h2 B _ _)) (fun B=>h2 B _ _)
     ·exact h
   ·exact h

theorem zcV (l:List BR) (i:Nat) (f:BR→BR):(atSet l i f).length=l.length:=by unfold atSet; split <;> simp
theorem zkR (bs:List BR) (ls:List LK) (ss:List SY) (kd i:Int):(stepB bs ls ss kd i).length=bs.length:=by
 unfold stepB
 split
 ·exact zcV _ _ _
 ·split
  ·unfold zcS
   split
   ·unfold zbc
    split
    ·unfold zd2
     split
     ·split <;> exact zcV _ _ _
     ·rfl
    ·rfl
   ·rfl
  ·split
   ·unfold zbF
    split
    ·rfl
    ·split
     ·rw [zcV,zcV]
     ·rfl
   ·rfl
theorem zjU (bs:List BR) (ls:List LK) (ss:List SY) (kd i:Int) (h:ss.length≤40):(stepS bs ls ss kd i).length≤40:=by
 unfold stepS
 split
 ·exact zif _ _ _ _ h _
 ·split
  ·rw [List.length_append,List.length_take,List.length_drop]; omega
  ·exact h

theorem zjT {a b:List BR × List LK × List SY} {kd i:Int} {q:Bool} (h:StepR a kd i b q):b=a∨FitT b:=by
 by_cases ho:NetOk a.1 a.2.1 a.2.2∧zaC a.1 a.2.1 a.2.2 kd i
 ·obtain ⟨-,e1,e2⟩:=h.yes ho.1 ho.2;refine .inr ⟨?_, ?_, ?_, ?_⟩
  ·rw [e1]; exact zkQ ho.1.1.1 (fun B p v hB=>zkv hB p v) (fun B p u hB=>zkC hB p u) (fun B hB=>zkS hB)
  ·rw [e1,zkR]; exact ho.1.1.2.2.2
  ·rw [h.l]; exact ho.1.2.1.1
  ·rw [e2]; exact zjU _ _ _ _ _ ho.1.2.2.2.1
 ·obtain ⟨-,e1,e2⟩:=h.no ho;refine .inl ?_;obtain ⟨b1,b2,b3⟩:=b;obtain ⟨a1,a2,a3⟩:=a;have e3:=h.l;dsimp only at *;rw [e1,e2,e3]

theorem za2 (kd i:Int) (w:World) :
  Calls Tryz.prog 8 #[.agg #[.int .i64 kd,.int .i64 i]] w fun e w'=>e=.returned (.agg #[.int .i64 kd,.int .i64 i])∧Below w.heap.size w w':=by
 go_enter Tryz.func8,Tryz.ntmps8;go_wp2;exact bodyPost_ret (v:=.agg #[.int .i64 kd,.int .i64 i]) (by simp [results,Tryz.results8,go_sem]) rfl ⟨rfl,zac _ _ _ _⟩

def HalfO (w wr:World) (l:List BV) (n k:Nat):Prop :=
 ∃ys:List BV,ys.length=k∧ys.map BV.B=(l.take k).map BV.B∧wr.ownsRow w.heap.size 64 11 (.slice (some ⟨w.heap.size,0,none⟩) n n) n (brF.all (ys++List.replicate (n - k) BV.zero))∧(∀y∈ys,y.Own wr w.heap.size)∧(ys.flatMap BV.blks).Nodup

theorem zfN (ao:Option Addr) (n c:Nat) (l:List BV) (w:World) (hl:GRow brF w ao n c l) (hr:∀x∈l,x.Reads w) (hs:n≤1048576) (hm:∀x∈l,x.Small) :
  Calls Tryz.prog 29 #[.slice ao n c] w fun r w'=>∃ao' cap ys,r=.returned (.slice ao' n cap)∧ys.map BV.B=l.map BV.B∧BOs w' w.heap.size ao' n cap ys∧Below w.heap.size w w':=by
 obtain ⟨i0,hi,hz0,hz1,hz2⟩:=zaM zdy;have s1:=hl.size;go_enter Tryz.func29,Tryz.ntmps29;go_wp2_with (at_make; refine wpList_make_full _ rfl _ _ 30 rfl w.heap.size 64 i0 (.agg #[.int .i64 0,.string ⟨#[]⟩,.slice none 0 0,.slice none 0 0,.slice none 0 0,.slice none 0 0,.int .i64 0,.int .i64 0,.int .i64 0,.int .i64 0,.int .i64 0]) 11 Tryz.underlying30 hi hz0 hz1 .i64 .i64 _ _ n rfl rfl rfl rfl ?c1 ?c2 ?c3 ?_)
 case c1=>rw [hz2]; omega
 case c2=>unfold maxLen; omega
 case c3=>exact Nat.le_refl _
 intro w1 hown hgrow;have hb1:Below w.heap.size w w1:=(Below.refl _ _).grown hgrow (Nat.le_refl _) (by intro k hk; cases hk);have hown1:HalfO w w1 l n 0:=by
  refine ⟨[],rfl,rfl, ?_,(by intro y hy; cases hy),List.nodup_nil⟩;rw [List.nil_append,Nat.sub_zero,← zb6]; exact hown
 clear hown hgrow hi hz0 hz1 hz2;go_wp2
 go_loopw [4] (fun i wr=>∃k:Nat,k≤n∧i=.int .i64 k∧HalfO w wr l n k∧Below w.heap.size w wr) (fun i _=>n - (intOf i).toNat)
 case atStart=>exact ⟨0,Nat.zero_le _,rfl,hown1,hb1⟩
 case round =>
  obtain ⟨k,hk,rfl,hh,hb⟩:=hrel;clear hown1 hb1;by_cases hlt:k < n
  ·obtain ⟨x,b,off,hx,rfl,ca0,ca1,ca2,ca3,ca4,ca5,ca6,ca7,ca8,ca9,ca10⟩:=br_at (hl.below hb) k hlt;obtain ⟨ys,rfl,hyd,hyo,hyi,hap⟩:=hh;have HAP:=hide hap;clear hap;have hrep:List.replicate (n - ys.length) BV.zero=BV.zero::List.replicate (n - (ys.length+1)) BV.zero:=by rw [← List.replicate_succ]; congr 1; omega
   rw [hrep] at hyo;have hmem:=List.mem_of_getElem? hx;obtain ⟨m1,m2,m3,m4⟩:=hm x hmem;have hrx:=(hr x hmem).below hb;have HX:=hide hx;have HB:=hide hb;have HYD:=hide hyd;have HYO:=hide hyo;have HYI:=hide hyi;clear hx hb hyd hyo hyi hrep;(go_wp2_with fail);refine (zfM x.a x.n x.c x.fa x.fn x.fc x.ra x.rn x.rc x.oa x.on x.oc x.B _ hrx m1 m2 m3 m4).mono ?_;rintro e w2 ⟨a2,c2,fa2,fc2,ra2,rc2,oa2,oc2,rfl,ow2,hb2⟩;generalize hy:(⟨a2,x.n,c2,fa2,x.fn,fc2,ra2,x.rn,rc2,oa2,x.on,oc2,x.B⟩:BV)=y;have ho2:=zi HYO.out hb2;have hz:(ys++BV.zero::List.replicate (n - (ys.length+1)) BV.zero)[ys.length]?=some BV.zero:=by simp
   obtain ⟨⟨t0,t1,t2,t3,t4,t5,t6,t7,t8,t9,t10⟩,f0,f1,f2,f3,f4,f5,f6,f7,f8,f9,f10⟩:=zO ho2 hz;have hyb:y.B=x.B:=by rw [← hy]
   have yo:y.Own w2 wr.heap.size:=by rw [← hy]; exact ow2
   have hnd:((ys++[y]).flatMap BV.blks).Nodup:=by
    rw [List.flatMap_append,List.nodup_append];refine ⟨HAP.out,by simpa using yo.nd, ?_⟩;intro b hb c hc e;subst e;obtain ⟨z,hz,hbz⟩:=List.mem_flatMap.1 hb;have h1:=((HYI.out z hz).blk b hbz).2;have h2:=(yo.blk b (by simpa using hc)).1;omega
   have HND:=hide hnd;clear hnd yo;have o3:=zeK (y:=y) ho2;have g3:=zdV (w:=w2) (g:=w.heap.size) (j:=ys.length*11) (y:=y);obtain ⟨cs,hblk⟩:=zjG ho2;have ow':y.Own w2 w.heap.size:=by rw [← hy]; exact ow2.lt HB.out.size
   have hb3:=zc HB.out hb2;have i3:∀W,w2.grownBy W (some w.heap.size)→∀z∈ys++[y],z.Own W w.heap.size:=by
    intro W hgW z hz;refine BV.Own.other (T:=64) ?_ hblk (by decide) (by decide) (by decide) (by decide) hgW;rcases List.mem_append.1 hz with hz | hz
    ·exact (HYI.out z hz).below hb2
    ·rw [List.mem_singleton.1 hz]; exact ow'
   have i3:=i3 _ g3;have hb4:=hb3.grown g3 hb3.size (by intro j e; cases e; exact Nat.le_refl _);rw [← hy] at o3 i3 hb4 HND;have HI:=hide i3;have HO3:=hide o3;have HB3:=hide hb4;clear ho2 hb2 hb3 hb4 o3 hz g3 hblk ow2 ow' i3 hy ca0 ca1 ca2 ca3 ca4 ca5 ca6 ca7 ca8 ca9 ca10 HYO HYI HB;go_wp2
   go_roundw
   case rel =>
    refine ⟨ys.length+1,by omega,by go_num,⟨ys++[⟨a2,x.n,c2,fa2,x.fn,fc2,ra2,x.rn,rc2,oa2,x.on,oc2,x.B⟩],by simp, ?_,by rw [List.append_assoc]; exact HO3.out,HI.out,HND.out⟩,HB3.out⟩;rw [List.map_append,HYD.out,List.take_add_one,HX.out]
    simp
   case measure=>simp [intOf]; omega
  ·have hkn:k=n:=by omega
   subst hkn;obtain ⟨ys,hyl,hyd,hyo,hyi,hap⟩:=hh;rw [List.take_of_length_le (by omega)] at hyd;rw [Nat.sub_self,List.replicate_zero,List.append_nil] at hyo;have HYD:=hide hyd;have HO:=hide hyo;have HI:=hide hyi;have HB:=hide hb;have HAP:=hide hap;clear hyd hyo hyi hb hap;go_wp2;go_ret;exact ⟨_,_,ys,rfl,HYD.out,⟨HO.out,HI.out,HAP.out⟩,HB.out⟩

theorem zca (N:NV) (w:World) (h:zak w N) (hs:sizeN N≤1048576) :
  Calls Tryz.prog 7 #[.agg #[.slice N.ba N.bn N.bc,.slice N.la N.ln N.lc,.slice N.sa N.sn N.sc]] w fun r w'=>∃M:NV,r=.returned (.agg #[.slice M.ba M.bn M.bc,.slice M.la M.ln M.lc,.slice M.sa M.sn M.sc])∧NOwn w' w.heap.size M∧M.Same N∧sizeN M=sizeN N∧Below w.heap.size w w':=by
 obtain ⟨z1,z2,z3,z4⟩:=zei h hs;go_enter Tryz.func7,Tryz.ntmps7;go_wp2_with fail
 refine (zfN N.ba N.bn N.bc N.bs _ (h.b.below (zac _ _ _ _)) (fun x hx=>(h.item x hx).below (zac _ _ _ _)) z1 z4).mono ?_;rintro e w1 ⟨ba,bc,bs,rfl,hB,OB,hb⟩;have oB:=OB.row;have iB:=OB.item;have HAP:=hide OB.apart;clear OB;obtain ⟨k0,k1,k2⟩:=za3 hb;have b1:Below w.heap.size w w1:=zc (zac w _ _ _) hb;obtain ⟨x0,x1,x2⟩:=zy k0;obtain ⟨y0,y1,y2⟩:=zy k2;have f0:=ze k2 0;have b2:=zn b1 (g:=w.heap.size+1+1) (by omega) 0 (.slice ba N.bn bc);have n1:=hb.size
 simp at n1
 have oB2:=zB (zD oB (base':=w.heap.size+3) (by simp)) (zl (rb:=w.heap.size+1+1) 0 (.slice ba N.bn bc)) (by intro b e; cases e; omega);have iB2:∀y∈bs,y.Own _ (w.heap.size+3):=fun y hy=>((iB y hy).lt (base':=w.heap.size+3) (by simp)).apart (zl (rb:=w.heap.size+1+1) 0 (.slice ba N.bn bc)) (by intro b e; cases e; omega)
 have k0':=z9 (b:=w.heap.size+1+1) (j:=0) (u:=.slice ba N.bn bc) k0 (by omega);have k1':=z9 (b:=w.heap.size+1+1) (j:=0) (u:=.slice ba N.bn bc) k1 (by omega);have k2':=zK (j:=0) k2 (.slice ba N.bn bc);clear oB iB hb k0 k1 k2;generalize hwA:w1.setCell ⟨w.heap.size+1+1,0,none⟩ (.slice ba N.bn bc)=wA at b2 oB2 iB2 k0' k1' k2';clear x0 x1 x2;obtain ⟨x0,x1,x2⟩:=zy k0';go_wp2_with fail
 refine (zgC N.la N.ln N.lc N.ls _ (h.l.below b2) z2).mono ?_;rintro e w3 ⟨la,lc,rfl,oL,hb3⟩;have k0:=za k0' hb3;have k1:=za k1' hb3;have k2:w3.heap[w.heap.size+1+1]?=some (.cells #[.slice ba N.bn bc,.slice none 0 0,.slice none 0 0] 34):=za k2' hb3;have b3:=zc b2 hb3;have n3:=b2.size;have n3':w.heap.size+3≤wA.heap.size:=by rw [← hwA]; simpa using n1
 have n3'':=Nat.le_trans n3' hb3.size;have oB3:=zi oB2 hb3;have iB3:∀y∈bs,y.Own _ (w.heap.size+3):=fun y hy=>(iB2 y hy).below hb3
 have oL3:=zD oL n3';clear hb3 k0' k1' k2' oB2 iB2 oL x0 x1 x2 y0 y1 y2 f0 hwA;obtain ⟨y0,y1,y2⟩:=zy k2;have f1:=ze k2 1;have b4:=zn b3 (g:=w.heap.size+1+1) (by omega) 1 (.slice la N.ln lc);have oB4:=zB oB3 (zl (rb:=w.heap.size+1+1) 1 (.slice la N.ln lc)) (by intro b e; cases e; omega);have oL4:=zB oL3 (zl (rb:=w.heap.size+1+1) 1 (.slice la N.ln lc)) (by intro b e; cases e; omega);have iB4:∀y∈bs,y.Own _ (w.heap.size+3):=fun y hy=>(iB3 y hy).apart (zl (rb:=w.heap.size+1+1) 1 (.slice la N.ln lc)) (by intro b e; cases e; omega)
 have k0':=z9 (b:=w.heap.size+1+1) (j:=1) (u:=.slice la N.ln lc) k0 (by omega);have k1':=z9 (b:=w.heap.size+1+1) (j:=1) (u:=.slice la N.ln lc) k1 (by omega);have k2':=zK (j:=1) k2 (.slice la N.ln lc);have n4:w.heap.size+3≤(w3.setCell ⟨w.heap.size+1+1,1,none⟩ (.slice la N.ln lc)).heap.size:=by simpa using n3''
 clear oB3 iB3 oL3 k0 k1 k2;generalize hwB:w3.setCell ⟨w.heap.size+1+1,1,none⟩ (.slice la N.ln lc)=wB at b4 oB4 oL4 iB4 k0' k1' k2' n4;obtain ⟨x0,x1,x2⟩:=zy k0';go_wp2_with fail
 refine (zhC N.sa N.sn N.sc N.ss _ (h.s.below b4) z3).mono ?_;rintro e w5 ⟨sa,sc,rfl,oS,hb5⟩;have k1:=za k1' hb5;have k2:w5.heap[w.heap.size+1+1]?=some (.cells #[.slice ba N.bn bc,.slice la N.ln lc,.slice none 0 0] 34):=za k2' hb5;have b5:=zc b4 hb5;have oB5:=zi oB4 hb5;have oL5:=zi oL4 hb5;have oS5:=zD oS n4;have iB5:∀y∈bs,y.Own _ (w.heap.size+3):=fun y hy=>(iB4 y hy).below hb5
 clear hb5 k0' k1' k2' oB4 oL4 iB4 oS x0 x1 x2 y0 y1 y2 f1 hwB;obtain ⟨y0,y1,y2⟩:=zy k2;obtain ⟨u0,u1,u2⟩:=zy k1;have f2:=ze k2 2;have g0:=ze k1 0;have g1:=ze k1 1;have g2:=ze k1 2;have ne1:¬w.heap.size+1=w.heap.size+1+1:=by omega
 have ne2:¬w.heap.size+1+1=w.heap.size+1:=by omega
 have hst:∀W,w5.grownBy W (some (w.heap.size+1+1))→∀W',W.grownBy W' (some (w.heap.size+1))→NOwn W' w.heap.size ⟨ba,N.bn,bc,bs,la,N.ln,lc,N.ls,sa,N.sn,sc,N.ss⟩:=by
  intro W hg W' hg';have l1:∀b,some (w.heap.size+1+1)=some b→b < w.heap.size+3:=by intro b e; cases e; omega
  have l2:∀b,some (w.heap.size+1)=some b→b < w.heap.size+3:=by intro b e; cases e; omega
  exact NOwn.lt (base:=w.heap.size+3) ⟨⟨zB (zB oB5 hg l1) hg' l2,fun y hy=>((iB5 y hy).apart hg l1).apart hg' l2,HAP.out⟩,zB (zB oL5 hg l1) hg' l2,zB (zB oS5 hg l1) hg' l2⟩ (by omega)
 have HN:=hide (hst _ (zl (rb:=w.heap.size+1+1) 2 (.slice sa N.sn sc)) _ (zA (zA (zl (rb:=w.heap.size+1) 0 (.slice ba N.bn bc)) (zl (rb:=w.heap.size+1) 1 (.slice la N.ln lc))) (zl (rb:=w.heap.size+1) 2 (.slice sa N.sn sc))));have HB:=hide (zn (zn (zn (zn b5 (g:=w.heap.size+1+1) (by omega) 2 (.slice sa N.sn sc)) (g:=w.heap.size+1) (by omega) 0 (.slice ba N.bn bc)) (g:=w.heap.size+1) (by omega) 1 (.slice la N.ln lc)) (g:=w.heap.size+1) (by omega) 2 (.slice sa N.sn sc));have HBB:=hide hB;clear hst k1 k2 oB5 oL5 oS5 iB5 b5 b4 b3 b2 b1 hB n1 n3 n3' n3'' n4;go_wp2;refine bodyPost_ret (v:=.agg #[.slice ba N.bn bc,.slice la N.ln lc,.slice sa N.sn sc]) (by simp [results,Tryz.results7,go_sem, *]) rfl ⟨⟨ba,N.bn,bc,bs,la,N.ln,lc,N.ls,sa,N.sn,sc,N.ss⟩,rfl,HN.out,⟨HBB.out,rfl,rfl⟩, ?_,HB.out⟩;have e:=HBB.out;unfold sizeN zai
 have:(bs.map fun x=>sizeB x.B)=(N.bs.map fun x=>sizeB x.B):=by
  have:=congrArg (List.map sizeB) e
  rw [List.map_map,List.map_map] at this;exact this
 simp only [this]

end Go.Proofs.YtpaneiaflfegoaaGreat
