/-
  Packed: LivA NetMark NetMarkN NetMarkM SayOn.
-/
import Derived.Test.YtkoekkjfcaiagaaGreatPTKW
import Derived.Test.YtkoekkjfcaiagaaGreatPTK01
import Derived.Test.YtkoekkjfcaiagaaGreatPTK02
import Derived.Test.YtkoekkjfcaiagaaGreatPTK04
import Derived.Test.YtkoekkjfcaiagaaGreatPTK05
import Derived.Test.YtkoekkjfcaiagaaGreatPTK06
import Derived.Test.YtkoekkjfcaiagaaGreatPTK10
import Derived.Test.YtkoekkjfcaiagaaGreatPTK15
import Derived.Test.YtkoekkjfcaiagaaGreatPTK17
import Derived.Test.YtkoekkjfcaiagaaGreatPTK19
import Derived.Deep.RegionHeld3
namespace Go.Proofs.YtkoekkjfcaiagaaGreat
set_option maxRecDepth 100000
set_option maxHeartbeats 16000000
open Go.RowKit

def zfD (bs:List BR) (b p:Int):Bool:=match bs[b.toNat]? with
 | some B=>bitOf (zam B.id B.ports) p
 | none=>false
def liveK (bs:List BR) (ls:List LK) (k:Nat):Bool:=zT bs ls (k:Int) && (match ls[k]? with
 | some x=>zfD bs x.a x.p && zfD bs x.b x.q
 | none=>false)
def zaE (bs:List BR) (ls:List LK):Nat→List Int
 | 0=>[]
 | k+1=>if liveK bs ls k=true then zaE bs ls k++[(k:Int)] else zaE bs ls k

theorem zeO {bs:List BR} {ls:List LK} {k:Nat} (h:liveK bs ls k=false):zaE bs ls (k+1)=zaE bs ls k:=by
 rw [zaE,if_neg (by rw [h]; decide)]
theorem zfU {bs:List BR} {ls:List LK} {k:Nat} (h:liveK bs ls k=true):zaE bs ls (k+1)=zaE bs ls k++[(k:Int)]:=by
 rw [zaE,if_pos h]
theorem zhV (bs:List BR) (ls:List LK):∀k,(zaE bs ls k).length≤k
 | 0=>Nat.le_refl _
 | k+1=>by
  have:=zhV bs ls k
  cases h:liveK bs ls k
  ·rw [zeO h]; omega
  ·rw [zfU h,List.length_append]; simp; omega

theorem zdB (N:NV) (w:World) (h:zag w N) (h20:N.ln≤1048576) (hrg:∀x∈N.ls,x.Rng) :
  Calls Tryz.prog 36 #[.agg #[.slice N.ba N.bn N.bc,.slice N.la N.ln N.lc,.slice N.sa N.sn N.sc]] w fun e w'=>∃ao cap,e=.returned (.slice ao (zaE N.brs N.ls N.ln).length cap)∧w'.ownsRow w.heap.size 3 1 (.slice ao (zaE N.brs N.ls N.ln).length cap) (zaE N.brs N.ls N.ln).length (intF.all (zaE N.brs N.ls N.ln))∧Below w.heap.size w w':=by
 have HSZ:=hide h.l.size;generalize hw1:w.alloc (Obj.cells #[.slice N.ba N.bn N.bc,.slice N.la N.ln N.lc,.slice N.sa N.sn N.sc] 31)=w1;have b01:=zb hw1;have k1:=zk hw1;have HZ:Hid (w1.heap.size=w.heap.size+1):=hide (by rw [← hw1]; simp);obtain ⟨x0,x1,x2⟩:=zd k1;go_enter Tryz.func36,Tryz.ntmps36;go_wp2_with fail
 clear hw1 x0 x1 x2
 go_loopw [3,4,5,6,10] (fun p u1 u2 u3 i wr=>∃(k:Nat) (ao:Option Addr) (cap:Nat),k≤N.ln∧i=.int .i64 k∧p=.slice ao (zaE N.brs N.ls k).length cap∧wr.ownsRow w.heap.size 3 1 (.slice ao (zaE N.brs N.ls k).length cap) (zaE N.brs N.ls k).length (intF.all (zaE N.brs N.ls k))∧wr.heap[w.heap.size]?=some (.cells #[.slice N.ba N.bn N.bc,.slice N.la N.ln N.lc,.slice N.sa N.sn N.sc] 31)∧Below w.heap.size w wr) (fun _ _ _ _ i _=>N.ln - (intOf i).toNat)
 case atStart=>exact ⟨0,none,0,Nat.zero_le _,rfl,rfl,World.ownsRow_nil _ _ _ _,k1,b01⟩
 case round =>
  obtain ⟨k,ao,cap,hk,rfl,rfl,ow,kP,hb⟩:=hrel;clear k1 b01;obtain ⟨x0,x1,x2⟩:=zd kP;by_cases hlt:k < N.ln
  ·have i1:(0:Int)≤(k:Int):=by omega
   have i2:(k:Int) < (N.ln:Int):=by omega
   have HLQ:=hide (zhV N.brs N.ls k);obtain ⟨x,lb,lo,hx,hla,a0,a1,a2,a3⟩:=zaI (h.l.below hb) k hlt;have HLA:=hide hla;clear hla;have HX:=hide hx;generalize hwl:wr.alloc (Obj.cells #[.int .i64 x.a,.int .i64 x.p,.int .i64 x.b,.int .i64 x.q] 44)=wl;have brl:=zb hwl;have kL:=zk hwl;have kP:=za kP brl;have hb:=zc hb brl;have ow:=zh ow brl;obtain ⟨z0,z1,z2⟩:=zd kP;obtain ⟨l0,l1,l2,l3⟩:=zG kL;rw [HLA.out];(go_wp2_with fail);clear a0 a1 a2 a3 x0 x1 x2 z0 z1 z2 hwl;obtain ⟨x0,x1,x2⟩:=zd kP;refine (zb7 x _).mono ?_;rintro e w2 ⟨rfl,hbc⟩;have kP:=za kP hbc;have kL:=za kL hbc;have hb:=zc hb hbc;have ow:=zh ow hbc;clear hbc x0 x1 x2 l0 l1 l2 l3;generalize hwe:w2.alloc (Obj.cells #[.int .i64 x.a,.int .i64 x.p,.int .i64 x.b,.int .i64 x.q] 86)=we;have bre:=zb hwe;have kE:=zk hwe;have kP:=za kP bre;have kL:=za kL bre;have hb:=zc hb bre;have ow:=zh ow bre;obtain ⟨x0,x1,x2⟩:=zd kP;obtain ⟨l0,l1,l2,l3⟩:=zG kL;obtain ⟨e0,e1,e2,e3⟩:=zG kE;(go_wp2_with fail);refine (zbu N (k:Int) _ (h.below hb)).mono ?_;rintro e w3 ⟨rfl,hbc⟩;have kP:=za kP hbc;have kL:=za kL hbc;have kE:=za kE hbc;have hb:=zc hb hbc;have ow:=zh ow hbc;clear hbc x0 x1 x2 l0 l1 l2 l3 e0 e1 e2 e3;obtain ⟨x0,x1,x2⟩:=zd kP;obtain ⟨l0,l1,l2,l3⟩:=zG kL;obtain ⟨e0,e1,e2,e3⟩:=zG kE;cases hU:zT N.brs N.ls (k:Int)
   ·have HF:=hide (zeO (show liveK N.brs N.ls k=false by unfold liveK; rw [hU]; rfl));clear hU hx;have HO:=hide ow;have HP:=hide kP;have HB:=hide hb;clear ow kP hb;go_wp2
    go_roundw
    case rel=>exact ⟨k+1,ao,cap,by omega,by go_num,by rw [HF.out],by rw [HF.out]; exact HO.out,by rw [← HLA.out]; exact HP.out,HB.out⟩
    case measure=>simp [intOf]; omega
   ·obtain ⟨i',ip,j,jq,A,B,pA,pB,rfl,hA,hB,hpA,hpB⟩:=zcK hx hU;obtain ⟨yA,hyA,rfl⟩:=zhK hA;obtain ⟨yB,hyB,rfl⟩:=zhK hB;have HK:Hid (liveK N.brs N.ls k=(bitOf (zam yA.B.id yA.B.ports) (ip:Int) && bitOf (zam yB.B.id yB.B.ports) (jq:Int))):=hide (by unfold liveK; rw [hU,hx]; simp only [zfD,Int.toNat_natCast,hA,hB,Bool.true_and]);have HY:=hide (And.intro hyA hyB);have HRG:=hide (hrg _ (List.mem_of_getElem? hx));clear hU hx hA hB hpA hpB hyA hyB;(go_wp2_with fail);refine (zea N i' ip yA _ (h.below hb) HY.out.1 (by have:=HRG.out; unfold LK.Rng I64 at this; dsimp only at this; omega)).mono ?_;rintro e w4 ⟨rfl,hbc⟩;have kP:=za kP hbc;have kL:=za kL hbc;have kE:=za kE hbc;have hb:=zc hb hbc;have ow:=zh ow hbc;clear hbc x0 x1 x2 l0 l1 l2 l3 e0 e1 e2 e3;obtain ⟨x0,x1,x2⟩:=zd kP;obtain ⟨l0,l1,l2,l3⟩:=zG kL;obtain ⟨e0,e1,e2,e3⟩:=zG kE;cases hq1:bitOf (zam yA.B.id yA.B.ports) (ip:Int)
    ·have HF:=hide (zeO (show liveK N.brs N.ls k=false by rw [HK.out,hq1]; rfl));clear hq1;have HO:=hide ow;have HP:=hide kP;have HB:=hide hb;clear ow kP hb;go_wp2
     go_roundw
     case rel=>exact ⟨k+1,ao,cap,by omega,by go_num,by rw [HF.out],by rw [HF.out]; exact HO.out,by rw [← HLA.out]; exact HP.out,HB.out⟩
     case measure=>simp [intOf]; omega
    ·(go_wp2_with fail);refine (zea N j jq yB _ (h.below hb) HY.out.2 (by have:=HRG.out; unfold LK.Rng I64 at this; dsimp only at this; omega)).mono ?_;rintro e w5 ⟨rfl,hbc⟩;have kP:=za kP hbc;have kL:=za kL hbc;have kE:=za kE hbc;have hb:=zc hb hbc;have ow:=zh ow hbc;clear hbc x0 x1 x2 l0 l1 l2 l3 e0 e1 e2 e3;obtain ⟨x0,x1,x2⟩:=zd kP;obtain ⟨l0,l1,l2,l3⟩:=zG kL;obtain ⟨e0,e1,e2,e3⟩:=zG kE;cases hq2:bitOf (zam yB.B.id yB.B.ports) (jq:Int)
     ·have HF:=hide (zeO (show liveK N.brs N.ls k=false by rw [HK.out,hq1,hq2]; rfl));clear hq1 hq2;have HO:=hide ow;have HP:=hide kP;have HB:=hide hb;clear ow kP hb;go_wp2
      go_roundw
      case rel=>exact ⟨k+1,ao,cap,by omega,by go_num,by rw [HF.out],by rw [HF.out]; exact HO.out,by rw [← HLA.out]; exact HP.out,HB.out⟩
      case measure=>simp [intOf]; omega
     ·have HF:=hide (zfU (show liveK N.brs N.ls k=true by rw [HK.out,hq1,hq2]; rfl));clear hq1 hq2;generalize hwa:w5.alloc (Obj.cells #[Value.int .i64 k] 3)=wa;have bra:=zb hwa;have ka:=zk hwa;have gone:GRow intF wa (some ⟨w5.heap.size,0,none⟩) 1 1 [(k:Int)]:=zF (F:=intF) (zd2 intF (x:=(k:Int)) (base:=0) ka rfl (Nat.zero_le _));have hI2:=zh ow bra;have HBA:=hide (zc hb bra);have KPA:=hide (za kP bra);clear ow hb kP;generalize hq:(zaE N.brs N.ls k).length=q at *;go_wp2_with (at_builtin; refine zL (F:=intF) _ rfl _ _ 24 3 rfl w.heap.size Tryz.underlying24 Tryz.infoI64 rfl (by decide) _ q (zaE N.brs N.ls k) rfl hI2 (some ⟨w5.heap.size,0,none⟩) 1 1 [(k:Int)] rfl gone (by have:=HLQ.out; omega) HBA.out.size ?_)
      intro a7 c7 w7 how hr hgr hb7;have HB7:=hide (HBA.out.trans hb7);have KP7:=hide (ze KPA.out hgr (fun b e=>zx hI2 KPA.out (by decide) b e));have HQ1:Hid ((zaE N.brs N.ls (k+1)).length=q+1):=hide (by rw [HF.out,List.length_append,hq]; rfl);rw [← HF.out] at how;have HO:=hide how;clear how hr hgr hb7 hI2 gone ka hq;go_wp2
      go_roundw
      case rel=>exact ⟨k+1,a7,c7,by omega,by go_num,by rw [HQ1.out],by rw [HQ1.out]; exact HO.out,by rw [← HLA.out]; exact KP7.out,HB7.out⟩
      case measure=>simp [intOf]; omega
  ·have hkn:k=N.ln:=by omega
   subst hkn;have HO:=hide ow;have HB:=hide hb;clear ow hb;go_wp2;go_ret;exact ⟨ao,cap,rfl,HO.out,HB.out⟩

def endW (K:Int) (x:BV):Int:=K+1+1+8*x.n+5*x.fn+3*x.rn+x.on
def markV (K:Int) (x:BV):BV:={ x with B:=⟨K,mtx (K+1),zlp (K+1+1) x.n,zln (K+1+1+8*x.n) x.fn,⟨zlq (K+1+1+8*x.n+5*x.fn) x.rn,zlt (K+1+1+8*x.n+5*x.fn+3*x.rn) x.on⟩,endW K x,endW K x+1,endW K x+1+1,endW K x+1+1+1,endW K x+1+1+1+1⟩ }
def endV (K:Int) (x:BV):Int:=endW K x+1+1+1+1+1
def zji:Int→List BV→List BV
 | _,[]=>[]
 | k,x::r=>markV k x::zji (endV k x) r
def endVs:Int→List BV→Int
 | k,[]=>k
 | k,x::r=>endVs (endV k x) r

def BV.Tiny (x:BV):Prop:=x.n≤64∧x.fn≤64∧x.rn≤64∧x.on≤64
theorem zkI {K:Int} {x:BV} (h:x.Tiny):K < endV K x∧endV K x≤K+2048:=by
 obtain ⟨h1,h2,h3,h4⟩:=h;unfold endV endW;omega
theorem zlB (a:List BV):(∀x∈a,x.Tiny)→∀K,K≤endVs K a∧endVs K a≤K+2048*a.length:=by
 induction a with
 | nil=>intro _ K; simp [endVs]
 | cons y r ih =>
  intro h K;have h1:=zkI (K:=K) (h y (by simp));have h2:=ih (fun x hx=>h x (by simp [hx])) (endV K y);simp only [endVs,List.length_cons];omega

theorem BOs.cell {w:World} {base g n cap jj a:Nat} {u:Value} {pre post:List BV} {x x':BV} (h:BOs w base (some ⟨g,0,none⟩) n cap (pre++x::post)) (hjj:jj < 11) (ha:a=pre.length*11+jj) (hc:(brF.cs x).set jj u=brF.cs x') (hb:x'.blks=x.blks) (hx:x.Own w base→x'.Own w base):BOs (w.setCell ⟨g,a,none⟩ u) base (some ⟨g,0,none⟩) n cap (pre++x'::post):=by
 subst ha;have hm:x∈pre++x::post:=by simp
 have O:=Only.set w g (pre.length*11+jj) u;refine h.turn (bs:=[g]) (x':=x') (by rw [hb]; exact zdU h.apart) O (fun b hb=>.inr (by simpa [blkL] using hb)) (zO (F:=brF) h.row jj u hjj hc) ?_;exact (hx (h.item x hm)).only O (fun b hb' hb2=>BV.Own.row_apart h.row (h.item x hm) b (hb▸hb') (by simpa [blkL] using hb2))

def markN (M:NV):NV:={ M with bs:=zji 1 M.bs,ls:=zkB (endVs 1 M.bs) M.ln }
def endN (M:NV):Int:=endVs 1 M.bs+4*M.ln
def NV.blks (M:NV):List Nat:=allB M.ba M.bs++blkL M.la

theorem zbi.blk {w:World} {base:Nat} {M:NV} (h:zbi w base M):∀b∈M.blks,base≤b∧b < w.heap.size:=by
 intro b hb;rcases List.mem_append.1 hb with hb | hb
 ·exact h.b.blk b hb
 ·exact h.l.lt b (zad.2 hb)

def zls (k:Int):SY:=⟨k,(k+1) % 3 == 0,⟨k+1+1,k+1+1+1,k+1+1+1+1,k+1+1+1+1+1,k+1+1+1+1+1+1⟩⟩
def zlr (k:Int) (n:Nat):List SY:=(List.range n).map fun (i:Nat)=>zls (k+7*i)

def markM (M:NV):NV:={ M with bs:=zji 1 M.bs,ls:=zkB (endVs 1 M.bs) M.ln,ss:=zlr (endVs 1 M.bs+4*M.ln) M.sn }
def endM (M:NV):Int:=endVs 1 M.bs+4*M.ln+7*M.sn
def NV.blksA (M:NV):List Nat:=allB M.ba M.bs++(blkL M.la++blkL M.sa)
def NV.Fits (M:NV):Prop:=endVs 1 M.bs≤16777216∧M.ln≤1048576∧M.sn≤1048576

theorem NOwn.blk {w:World} {base:Nat} {M:NV} (h:NOwn w base M):∀b∈M.blksA,base≤b∧b < w.heap.size:=by
 intro b hb;rcases List.mem_append.1 hb with hb | hb
 ·exact h.b.blk b hb
 ·rcases List.mem_append.1 hb with hb | hb
  ·exact h.l.lt b (zad.2 hb)
  ·exact h.s.lt b (zad.2 hb)

theorem NOwn.only {bs:List Nat} {w w':World} {base:Nat} {M:NV} (h:NOwn w base M) (ho:Only bs w w') (hn:∀b∈M.blksA,b∉bs):NOwn w' base M :=
 ⟨h.b.only ho (fun b hb=>hn b (List.mem_append_left _ hb)),ho.own h.l (fun k hk=>hn k (List.mem_append_right _ (List.mem_append_left _ (zad.1 hk)))),ho.own h.s (fun k hk=>hn k (List.mem_append_right _ (List.mem_append_right _ (zad.1 hk))))⟩

structure Way (x:LK) (back:Bool) (fb fp tb tp:Int):Prop where
 yes:back=true→fb=x.b∧fp=x.q∧tb=x.a∧tp=x.p
 no:back=false→fb=x.a∧fp=x.p∧tb=x.b∧tp=x.q

theorem zbS (x:LK) (back:Bool) (fb fp tb tp:Int) (w:World) (hw:Way x back fb fp tb tp) :
  Calls Tryz.prog 117 #[.agg #[.int .i64 x.a,.int .i64 x.p,.int .i64 x.b,.int .i64 x.q],.bool back] w fun e w'=>e=.returned (.tuple #[.agg #[.int .i64 fb,.int .i64 fp],.agg #[.int .i64 tb,.int .i64 tp]])∧Below w.heap.size w w':=by
 generalize hw1:w.alloc (Obj.cells #[.int .i64 x.a,.int .i64 x.p,.int .i64 x.b,.int .i64 x.q] 44)=w1;generalize hw2:w1.alloc (Obj.cells #[.int .i64 0,.int .i64 0] 85)=w2;generalize hw3:w2.alloc (Obj.cells #[.int .i64 0,.int .i64 0] 85)=w3;have b01:=zb hw1;have b12:=zb hw2;have b23:=zb hw3;have b13:=zc b12 b23;have k0:=za (zk hw1) b13;have k1:=za (zk hw2) b23;have k2:=zk hw3;have b03:=zc b01 b13;have HZ:Hid (w1.heap.size=w.heap.size+1∧w2.heap.size=w.heap.size+2):=hide ⟨by rw [← hw1]; simp,by rw [← hw2,← hw1]; simp⟩;have HZ3:Hid (w3.heap.size=w.heap.size+3):=hide (by rw [← hw3,← hw2,← hw1]; simp);obtain ⟨x0,x1,x2,x3⟩:=zG k0;go_enter Tryz.func117,Tryz.ntmps117;go_wp2_with fail
 refine (zb7 x _).mono ?_;rintro e we ⟨rfl,hbe⟩;generalize hwq:we.alloc (Obj.cells #[.int .i64 x.a,.int .i64 x.p,.int .i64 x.b,.int .i64 x.q] 86)=wq;have bq:=zb hwq;have kE:=zk hwq;have bq:=zc hbe bq;have k1:=za k1 bq;have k2:=za k2 bq;have b0:=zc b03 bq;have HZ4:Hid (w.heap.size+3≤we.heap.size):=hide (by have:=hbe.size; have:=HZ3.out; omega);clear x0 x1 x2 x3 hbe k0 hw1 hw2 hw3 b01 b12 b23 b13 b03;cases back
 ·obtain ⟨rfl,rfl,rfl,rfl⟩:=hw.no rfl;clear hw;(go_upto_region 4 with fail);clear hwq;have vv:Below wq.heap.size wq wq.drew:=zw (Below.refl _ _);have bb:=zc b0 vv;obtain ⟨p0,p1⟩:=zm k1;obtain ⟨p2,p3⟩:=zm k2;have p4:=zf k1 0;have p5:=zf k1 1;have p6:=zf k2 0;have p7:=zf k2 1;have k1:=za k1 vv;have k2:=za k2 vv;have kE:=za kE vv;clear b0 bq vv;refine wp_region_held_drew (S:=(fun W=>(W.cell? ⟨we.heap.size,0,none⟩=some (.int .i64 x.a)∧W.cell? ⟨we.heap.size,1,none⟩=some (.int .i64 x.p)∧W.cell? ⟨we.heap.size,2,none⟩=some (.int .i64 x.b)∧W.cell? ⟨we.heap.size,3,none⟩=some (.int .i64 x.q)))) (by kernel_rfl) (zG kE) (fun hHeld => ?_);refine kK 0 ⟨some 14,.indexAddr 86 (.tmp 6) (.const (.int .i64 0)),0,"l14_step.go:175",#[],none⟩ ?_;refine kK 1 ⟨some 15,.load 85 (.tmp 14),85,"l14_step.go:175",#[⟨0,.data⟩],none⟩ ?_;refine kK 2 ⟨some 16,.indexAddr 86 (.tmp 6) (.const (.int .i64 1)),0,"l14_step.go:175",#[{ on:=4,ground:=Ground.gcOnly Departure.lateStores }],none⟩ ?_;refine kK 3 ⟨some 17,.load 85 (.tmp 16),85,"l14_step.go:175",#[⟨2,.data⟩,{ on:=4,ground:=Ground.gcOnly Departure.lateStores }],none⟩ ?_;refine kR 4 ⟨none,.store 85 (.tmp 4) (.tmp 15),0,"l14_step.go:175",#[⟨1,.data⟩,⟨0,.phase⟩,⟨1,.phase⟩,{ on:=2,ground:=Ground.textOnly Departure.lateStores },{ on:=3,ground:=Ground.textOnly Departure.lateStores }],none⟩ (fun K hK => ?_);obtain ⟨xx0,xx1⟩:=zm k1;have ff0:=zf k1 0;have ff1:=zf k1 1;go_simp;refine zI (K:=K _) k1 _ _ (fun wq kQ hgq => ?_);have bb:=bb.grown hgq bb.size (by intro j e; cases e; have:=HZ.out; omega);have kE:=ze kE hgq (by intro j e; cases e; have:=HZ.out; have:=HZ4.out; omega);(try have k2:=ze k2 hgq (by intro j e; cases e; have:=HZ.out; omega));(try have kA:=ze kA hgq (by intro j e; cases e; have:=HZ.out; omega));(try have kB:=ze kB hgq (by intro j e; cases e; have:=HZ.out; omega));have kA:=kQ;clear hgq kQ xx0 xx1 ff0 ff1;refine hK.out _ _ (zG kE) (fun hHeld => ?_);clear hK K;(try simp only [Act.put,lA,lB,lC]);refine kR 5 ⟨none,.store 85 (.tmp 5) (.tmp 17),0,"l14_step.go:175",#[⟨3,.data⟩,⟨4,.chain⟩,⟨0,.phase⟩,⟨1,.phase⟩,⟨2,.phase⟩,⟨3,.phase⟩,⟨4,.phase⟩],none⟩ (fun K hK => ?_);obtain ⟨xx0,xx1⟩:=zm k2;have ff0:=zf k2 0;have ff1:=zf k2 1;go_simp;refine zI (K:=K _) k2 _ _ (fun wq kQ hgq => ?_);have bb:=bb.grown hgq bb.size (by intro j e; cases e; have:=HZ.out; omega);have kE:=ze kE hgq (by intro j e; cases e; have:=HZ.out; have:=HZ4.out; omega);(try have k1:=ze k1 hgq (by intro j e; cases e; have:=HZ.out; omega));(try have kA:=ze kA hgq (by intro j e; cases e; have:=HZ.out; omega));(try have kB:=ze kB hgq (by intro j e; cases e; have:=HZ.out; omega));have kB:=kQ;clear hgq kQ xx0 xx1 ff0 ff1;refine hK.out _ _ (zG kE) (fun hHeld => ?_);clear hK K;(try simp only [Act.put,lA,lB,lC]);refine wpAnyH_done (by kernel_rfl) ?_ _;have HB:=hide bb;obtain ⟨r0,r1⟩:=zm kA;obtain ⟨t0,t1⟩:=zm kB;clear hHeld kE k1 k2 kA kB bb;go_wp2;exact bodyPost_ret (v:=.tuple #[.agg #[.int .i64 x.a,.int .i64 x.p],.agg #[.int .i64 x.b,.int .i64 x.q]]) (by simp [results,Tryz.results117,go_sem, *]) rfl ⟨rfl,HB.out⟩
 ·obtain ⟨rfl,rfl,rfl,rfl⟩:=hw.yes rfl;clear hw;(go_upto_region 3 with fail);clear hwq;have vv:Below wq.heap.size wq wq.drew:=zw (Below.refl _ _);have bb:=zc b0 vv;obtain ⟨p0,p1⟩:=zm k1;obtain ⟨p2,p3⟩:=zm k2;have p4:=zf k1 0;have p5:=zf k1 1;have p6:=zf k2 0;have p7:=zf k2 1;have k1:=za k1 vv;have k2:=za k2 vv;have kE:=za kE vv;clear b0 bq vv;refine wp_region_held_drew (S:=(fun W=>(W.cell? ⟨we.heap.size,0,none⟩=some (.int .i64 x.a)∧W.cell? ⟨we.heap.size,1,none⟩=some (.int .i64 x.p)∧W.cell? ⟨we.heap.size,2,none⟩=some (.int .i64 x.b)∧W.cell? ⟨we.heap.size,3,none⟩=some (.int .i64 x.q)))) (by kernel_rfl) (zG kE) (fun hHeld => ?_);refine kK 0 ⟨some 10,.indexAddr 86 (.tmp 6) (.const (.int .i64 1)),0,"l14_step.go:173",#[],none⟩ ?_;refine kK 1 ⟨some 11,.load 85 (.tmp 10),85,"l14_step.go:173",#[⟨0,.data⟩],none⟩ ?_;refine kK 2 ⟨some 12,.indexAddr 86 (.tmp 6) (.const (.int .i64 0)),0,"l14_step.go:173",#[{ on:=4,ground:=Ground.gcOnly Departure.lateStores }],none⟩ ?_;refine kK 3 ⟨some 13,.load 85 (.tmp 12),85,"l14_step.go:173",#[⟨2,.data⟩,{ on:=4,ground:=Ground.gcOnly Departure.lateStores }],none⟩ ?_;refine kR 4 ⟨none,.store 85 (.tmp 4) (.tmp 11),0,"l14_step.go:173",#[⟨1,.data⟩,⟨0,.phase⟩,⟨1,.phase⟩,{ on:=2,ground:=Ground.textOnly Departure.lateStores },{ on:=3,ground:=Ground.textOnly Departure.lateStores }],none⟩ (fun K hK => ?_);obtain ⟨xx0,xx1⟩:=zm k1;have ff0:=zf k1 0;have ff1:=zf k1 1;go_simp;refine zI (K:=K _) k1 _ _ (fun wq kQ hgq => ?_);have bb:=bb.grown hgq bb.size (by intro j e; cases e; have:=HZ.out; omega);have kE:=ze kE hgq (by intro j e; cases e; have:=HZ.out; have:=HZ4.out; omega);(try have k2:=ze k2 hgq (by intro j e; cases e; have:=HZ.out; omega));(try have kA:=ze kA hgq (by intro j e; cases e; have:=HZ.out; omega));(try have kB:=ze kB hgq (by intro j e; cases e; have:=HZ.out; omega));have kA:=kQ;clear hgq kQ xx0 xx1 ff0 ff1;refine hK.out _ _ (zG kE) (fun hHeld => ?_);clear hK K;(try simp only [Act.put,lA,lB,lC]);refine kR 5 ⟨none,.store 85 (.tmp 5) (.tmp 13),0,"l14_step.go:173",#[⟨3,.data⟩,⟨4,.chain⟩,⟨0,.phase⟩,⟨1,.phase⟩,⟨2,.phase⟩,⟨3,.phase⟩,⟨4,.phase⟩],none⟩ (fun K hK => ?_);obtain ⟨xx0,xx1⟩:=zm k2;have ff0:=zf k2 0;have ff1:=zf k2 1;go_simp;refine zI (K:=K _) k2 _ _ (fun wq kQ hgq => ?_);have bb:=bb.grown hgq bb.size (by intro j e; cases e; have:=HZ.out; omega);have kE:=ze kE hgq (by intro j e; cases e; have:=HZ.out; have:=HZ4.out; omega);(try have k1:=ze k1 hgq (by intro j e; cases e; have:=HZ.out; omega));(try have kA:=ze kA hgq (by intro j e; cases e; have:=HZ.out; omega));(try have kB:=ze kB hgq (by intro j e; cases e; have:=HZ.out; omega));have kB:=kQ;clear hgq kQ xx0 xx1 ff0 ff1;refine hK.out _ _ (zG kE) (fun hHeld => ?_);clear hK K;(try simp only [Act.put,lA,lB,lC]);refine wpAnyH_done (by kernel_rfl) ?_ _;have HB:=hide bb;obtain ⟨r0,r1⟩:=zm kA;obtain ⟨t0,t1⟩:=zm kB;clear hHeld kE k1 k2 kA kB bb;go_wp2;exact bodyPost_ret (v:=.tuple #[.agg #[.int .i64 x.b,.int .i64 x.q],.agg #[.int .i64 x.a,.int .i64 x.p]]) (by simp [results,Tryz.results117,go_sem, *]) rfl ⟨rfl,HB.out⟩

theorem zdJ (N:NV) (k i:Nat) (x:LK) (y:BV) (back:Bool) (fp tb tp:Int) (w:World) (h:zag w N) (hx:N.ls[k]?=some x) (hy0:N.bs[i]?=some y) (hwy:Way x back (i:Int) fp tb tp) :
  Calls Tryz.prog 74 #[.agg #[.slice N.ba N.bn N.bc,.slice N.la N.ln N.lc,.slice N.sa N.sn N.sc],.int .i64 (k:Int),.bool back] w fun e w'=>e=.returned (.agg #[.int .i64 (k:Int),.bool back,.int .i64 (sayV y.B.id y.B.ports fp).r,.int .i64 (sayV y.B.id y.B.ports fp).c,.int .i64 (sayV y.B.id y.B.ports fp).h,.int .i64 (sayV y.B.id y.B.ports fp).b,.int .i64 (sayV y.B.id y.B.ports fp).p])∧Below w.heap.size w w':=by
 have hk:k < N.ln:=by have:=(List.getElem?_eq_some_iff.1 hx).1; have:=h.l.size; omega
 have hib:i < N.bn:=by have:=(List.getElem?_eq_some_iff.1 hy0).1; have:=h.b.size; omega
 have hle:=Nat.le_trans h.b.le h.b.top;unfold maxLen at hle;generalize hw1:w.alloc (Obj.cells #[.slice N.ba N.bn N.bc,.slice N.la N.ln N.lc,.slice N.sa N.sn N.sc] 31)=w1;generalize hw2:w1.alloc (Obj.cells #[.int .i64 0,.bool false,.int .i64 0,.int .i64 0,.int .i64 0,.int .i64 0,.int .i64 0] 90)=w2;have b01:=zb hw1;have b12:=zb hw2;have b02:=zc b01 b12;have kP:=za (zk hw1) b12;have kJ:=zk hw2;have HZ1:Hid (w1.heap.size=w.heap.size+1):=hide (by rw [← hw1]; simp);have HZ2:Hid (w2.heap.size=w.heap.size+2):=hide (by rw [← hw2,← hw1]; simp);obtain ⟨x',lb,lo,hx',hla,a0,a1,a2,a3⟩:=zaI (h.l.below b02) k hk;rw [hx] at hx';cases hx';obtain ⟨y',bb,off,hy',hba,-⟩:=br_at h.b i hib;rw [hy0] at hy';cases hy';have hy:=h.item y (List.mem_of_getElem? hy0);have hG:GRow brF w (some ⟨bb,off,none⟩) N.bn N.bc N.bs:=by rw [← hba]; exact h.b
 have HBC:Hid (∀W,Below w.heap.size w W→W.cell? ⟨bb,off+i*11,none⟩=some (.int .i64 y.B.id)∧W.cell? ⟨bb,off+i*11+2,none⟩=some (.slice y.a y.n y.c)):=hide (fun W hW=>by have:=zQ hG hW hy0; exact ⟨this.1,this.2.2.1⟩);have HBA:=hide hba;obtain ⟨x0,x1,x2⟩:=zd kP;rw [hla] at x1;have i1:(0:Int)≤(k:Int):=by omega
 have i2:(k:Int) < (N.ln:Int):=by omega
 clear hla hba hx hy0 hG b01 b12;go_enter Tryz.func74,Tryz.ntmps74;go_wp2_with fail
 refine (zbS x back (i:Int) fp tb tp _ hwy).mono ?_;rintro e w4 ⟨rfl,b24⟩;generalize hz5:w4.alloc (Obj.cells #[.int .i64 0,.int .i64 0] 85)=z5;generalize hz6:z5.alloc (Obj.cells #[.int .i64 0,.int .i64 0] 85)=z6;have b45:=zb hz5;have b56:=zb hz6;have kF:=za (zk hz5) b56;have kG:=zk hz6;have HZ5:Hid (z5.heap.size=w4.heap.size+1):=hide (by rw [← hz5]; simp);obtain ⟨p0,p1⟩:=zm kF;obtain ⟨p2,p3⟩:=zm kG;have p4:=zf kF 0;have p5:=zf kF 1;have p6:=zf kG 0;have p7:=zf kG 1;have ne1:¬w4.heap.size=z5.heap.size:=by have:=HZ5.out; omega
 have ne2:¬z5.heap.size=w4.heap.size:=by have:=HZ5.out; omega
 have b26:=zc b24 (zc b45 b56);have kP:=za kP b26;have kJ:=za kJ b26;have b06:=zc b02 b26;have HZ4:Hid (w.heap.size+2≤w4.heap.size):=hide (by have:=b24.size; have:=HZ2.out; omega);clear x0 x1 x2 a0 a1 a2 a3 b24 b45 b56 b26 b02 hw1 hw2;go_upto_region 2 with fail
 generalize hw6:(((z6.setCell ⟨w4.heap.size,0,none⟩ (.int .i64 (i:Int))).setCell ⟨w4.heap.size,1,none⟩ (.int .i64 fp)).setCell ⟨z5.heap.size,0,none⟩ (.int .i64 tb)).setCell ⟨z5.heap.size,1,none⟩ (.int .i64 tp)=w6;obtain ⟨w5,hw5⟩:∃w5:World,w5=(z6.setCell ⟨w4.heap.size,0,none⟩ (.int .i64 (i:Int))).setCell ⟨w4.heap.size,1,none⟩ (.int .i64 fp):=⟨_,rfl⟩;have kF5:w5.heap[w4.heap.size]?=some (.cells #[.int .i64 (i:Int),.int .i64 fp] 85):=by rw [hw5]; exact zI (K:=fun W=>W.heap[w4.heap.size]?=some (.cells #[.int .i64 (i:Int),.int .i64 fp] 85)) kF _ _ (fun wq kQ _=>kQ)
 have hgA:z6.grownBy w5 (some w4.heap.size):=by rw [hw5]; exact zK (zj 0 _) (zj 1 _)
 have hgB:w5.grownBy w6 (some z5.heap.size):=by rw [← hw6,← hw5]; exact zK (zj 0 _) (zj 1 _)
 have kF:=ze kF5 hgB (by intro j e; cases e; exact ne2);have kP:=ze (ze kP hgA (by intro j e; cases e; have:=HZ4.out; omega)) hgB (by intro j e; cases e; have:=HZ4.out; have:=HZ5.out; omega);have kJ:=ze (ze kJ hgA (by intro j e; cases e; have:=HZ4.out; have:=HZ1.out; omega)) hgB (by intro j e; cases e; have:=HZ4.out; have:=HZ5.out; have:=HZ1.out; omega);have b06:=(b06.grown hgA b06.size (by intro j e; cases e; have:=HZ4.out; omega)).grown hgB (Nat.le_trans b06.size hgA.size) (by intro j e; cases e; have:=HZ4.out; have:=HZ5.out; omega);clear hw6 hw5 hgA hgB kF5 p0 p1 p2 p3 p4 p5 p6 p7 kG hz5 hz6 ne1 ne2;obtain ⟨x0,x1,x2⟩:=zd kP;obtain ⟨e0,e1⟩:=zm kF;go_wp2_with fail
 refine (zbT N i bb off _ hle hib HBA.out).mono ?_;rintro e w7 ⟨rfl,b67⟩;have kF:=za kF b67;have kJ:=za kJ b67;have b0:=zc b06 b67;clear x0 x1 x2 e0 e1 b67 b06 kP hwy;have vv:Below w7.heap.size w7 w7.drew:=zw (Below.refl _ _);have kF:=za kF vv;have kJ:=za kJ vv;have hc:=HBC.out _ (zc b0 vv);go_upto_region 3 with fail
 refine wp_region_held_drew (S:=(fun W=>(W.cell? ⟨w4.heap.size,0,none⟩=some (.int .i64 (i:Int))∧W.cell? ⟨w4.heap.size,1,none⟩=some (.int .i64 fp))∧(W.cell? ⟨bb,off+i*11,none⟩=some (.int .i64 y.B.id)∧W.cell? ⟨bb,off+i*11+2,none⟩=some (.slice y.a y.n y.c)))) (by kernel_rfl) (⟨zm kF,hc⟩) (fun hHeld => ?_);refine kK 0 ⟨some 24,.move (.tmp 1),3,"l14_step.go:182",#[],none⟩ ?_;refine kK 1 ⟨some 25,.move (.tmp 2),4,"l14_step.go:182",#[],none⟩ ?_;refine kK 2 ⟨some 26,.move (.tmp 9),78,"l14_step.go:182",#[],none⟩ ?_;refine kK 3 ⟨some 27,.nilCheck (.tmp 26),0,"l14_step.go:182",#[⟨2,.data⟩],none⟩ ?_;refine kK 4 ⟨some 28,.fieldAddr 63 (.tmp 27) 0,0,"l14_step.go:182",#[⟨3,.data⟩],none⟩ ?_;refine kK 5 ⟨some 29,.load 3 (.tmp 28),3,"l14_step.go:182",#[⟨4,.data⟩],none⟩ ?_;refine kK 6 ⟨some 30,.move (.tmp 9),78,"l14_step.go:182",#[],none⟩ ?_;refine kK 7 ⟨some 31,.nilCheck (.tmp 30),0,"l14_step.go:182",#[⟨6,.data⟩],none⟩ ?_;refine kK 8 ⟨some 32,.fieldAddr 63 (.tmp 31) 2,0,"l14_step.go:182",#[⟨7,.data⟩],none⟩ ?_;refine kK 9 ⟨some 33,.load 57 (.tmp 32),57,"l14_step.go:182",#[⟨8,.data⟩],none⟩ ?_;refine kK 10 ⟨some 34,.fieldAddr 85 (.tmp 7) 1,0,"l14_step.go:182",#[],none⟩ ?_;refine kK 11 ⟨some 35,.load 3 (.tmp 34),3,"l14_step.go:182",#[⟨10,.data⟩],none⟩ ?_;refine kR 12 ⟨some 36,.call ⟨.value (.func 119),#[.tmp 29,.tmp 33,.tmp 35],#[3,57,3]⟩,65,"l14_step.go:182",#[⟨5,.data⟩,⟨9,.data⟩,⟨11,.data⟩],none⟩ (fun K hK => ?_);go_simp;refine (zb2 y.B.id y.a y.n y.c y.B.ports fp _ (hy.ports.below (zc b0 vv))).mono ?_;rintro e wz ⟨rfl,hbz⟩;have vv:=zc vv hbz;have kF:=za kF hbz;have kJ:=za kJ hbz;have hc:=HBC.out _ (zc b0 vv);generalize hSV:sayV y.B.id y.B.ports fp=SV at *;go_wp2_with fail
 refine hK.out _ _ (⟨zm kF,hc⟩) (fun hHeld => ?_);clear hK K
 try simp only [Act.put,lA,lB,lC]
 refine kK 13 ⟨some 37,.build 90 #[(0,.tmp 24),(1,.tmp 25),(2,.tmp 36)],90,"l14_step.go:182",#[⟨0,.data⟩,⟨1,.data⟩,⟨12,.data⟩],none⟩ ?_;refine kR 14 ⟨none,.store 90 (.tmp 6) (.tmp 37),0,"l14_step.go:182",#[⟨13,.data⟩,⟨12,.chain⟩,⟨0,.phase⟩,⟨1,.phase⟩,⟨2,.phase⟩,⟨3,.phase⟩,⟨4,.phase⟩,⟨5,.phase⟩,⟨6,.phase⟩,⟨7,.phase⟩,⟨8,.phase⟩,⟨9,.phase⟩,⟨10,.phase⟩,⟨11,.phase⟩,⟨12,.phase⟩,⟨13,.phase⟩],none⟩ (fun K hK => ?_);obtain ⟨xx0,xx1,xx2,xx3,xx4,xx5,xx6⟩:=zae kJ;have ff0:=zf kJ 0;have ff1:=zf kJ 1;have ff2:=zf kJ 2;have ff3:=zf kJ 3;have ff4:=zf kJ 4;have ff5:=zf kJ 5;have ff6:=zf kJ 6;go_simp;refine zgE (K:=K _) kJ _ _ _ _ _ _ _ (fun wq kQ hgq => ?_);have bq:=(zc b0 vv).grown hgq (zc b0 vv).size (by intro j e; cases e; have:=HZ1.out; omega);have kF:=ze kF hgq (by intro j e; cases e; have:=HZ1.out; have:=HZ4.out; omega);have hc:=HBC.out _ bq;refine hK.out _ _ (⟨zm kF,hc⟩) (fun hHeld => ?_);clear hK K
 try simp only [Act.put,lA,lB,lC]
 refine wpAnyH_done (by kernel_rfl) ?_ _;have HB:=hide bq;obtain ⟨r0,r1,r2,r3,r4,r5,r6⟩:=zae kQ;clear hHeld kF kQ hgq bq vv hc kJ xx0 xx1 xx2 xx3 xx4 xx5 xx6 ff0 ff1 ff2 ff3 ff4 ff5 ff6;go_wp2;exact bodyPost_ret (v:=.agg #[.int .i64 (k:Int),.bool back,.int .i64 SV.r,.int .i64 SV.c,.int .i64 SV.h,.int .i64 SV.b,.int .i64 SV.p]) (by simp [results,Tryz.results74,go_sem, *]) rfl ⟨by rw [hSV],HB.out⟩

end Go.Proofs.YtkoekkjfcaiagaaGreat
