/-
  Packed: ChgSeen MibPort MibRow MibEnt Box11 DrawFdb.
-/
import Derived.Test.YtcpdkcdfnpcemaaGreatPRK18
namespace Go.Proofs.YtcpdkcdfnpcemaaGreat
set_option maxRecDepth 100000
set_option maxHeartbeats 16000000
open Go.RowKit

theorem zcM {α:Type} {f:Nat→α→BD} {l:List α} {i:Nat} {x:α} (hx:l[i]? = some x):∀{k:Nat},i < k→f i x∈zau f l k
 | 0,h=>by omega
 | k+1,h=>by
  rw [zau];by_cases e:i=k
  ·subst e;rw [hx];exact List.mem_append_right _ (List.mem_singleton.2 rfl)
  ·have ih:=zcM (f:=f) hx (show i < k by omega)
   split
   ·exact List.mem_append_left _ ih
   ·exact ih
theorem zdt {g:Int→List BD} {d:BD} {c:Nat} (hd:d∈g ((c:Int)+1)):∀{k:Nat},c < k→d∈zaa g k
 | 0,h=>by omega
 | k+1,h=>by
  rw [zaa];by_cases e:c=k
  ·subst e;exact List.mem_append_right _ hd
  ·exact List.mem_append_left _ (zdt hd (show c < k by omega))

theorem zju {o:List Int} (h:o.length=6) (h3:o.take 3=[1,3,1]):o=[1,3,1,o.getD 3 0,o.getD 4 0,o.getD 5 0]:=by
 match o,h with
 | [a,b,c,d,e,f],_ =>
  simp at h3
  obtain ⟨rfl,rfl,rfl⟩:=h3
  rfl
theorem zi2 {o:List Int} (h:o.length=5) (h3:o.take 3=[1,3,1]):o=[1,3,1,o.getD 3 0,o.getD 4 0]:=by
 match o,h with
 | [a,b,c,d,e],_ =>
  simp at h3
  obtain ⟨rfl,rfl,rfl⟩:=h3
  rfl
theorem ziM {o:List Int} (h:o.length=7) (h3:o.take 3=[1,3,1]):o=[1,3,1,o.getD 3 0,o.getD 4 0,o.getD 5 0,o.getD 6 0]:=by
 match o,h with
 | [a,b,c,d,e,f,g],_ =>
  simp at h3
  obtain ⟨rfl,rfl,rfl⟩:=h3
  rfl

theorem zhj {B:BR} {o:List Int}:(∃d∈zaU B,d.o=o) ↔
  (∃j:Int,1≤j∧j≤5∧o=[1,3,1,1,j])∨(∃(c:Int) (p:Nat),1≤c∧c≤4∧p < B.ports.length∧o=[1,3,1,2,c,(p:Int)+1])∨(∃(c:Int) (r:VR),1≤c∧c≤3∧r∈B.v.rows∧o=[1,3,1,3,c,r.i])∨(∃e∈B.f,o=[1,3,1,4,1,e.t,e.m]):=by
 constructor
 ·rintro ⟨d,hd,rfl⟩;unfold zaU at hd;simp only [List.mem_append] at hd;rcases hd with ((hd | hd) | hd) | hd
  ·unfold zak at hd;simp only [List.mem_cons,List.not_mem_nil,or_false] at hd;rcases hd with rfl | rfl | rfl | rfl | rfl
   ·exact .inl ⟨1,by omega,by omega,rfl⟩
   ·exact .inl ⟨2,by omega,by omega,rfl⟩
   ·exact .inl ⟨3,by omega,by omega,rfl⟩
   ·exact .inl ⟨4,by omega,by omega,rfl⟩
   ·exact .inl ⟨5,by omega,by omega,rfl⟩
  ·obtain ⟨c,hc,hd⟩:=zbT hd;obtain ⟨p,x,hp,hx,rfl⟩:=za6 hd;exact .inr (.inl ⟨(c:Int)+1,p,by omega,by omega,hp,rfl⟩)
  ·obtain ⟨c,hc,hd⟩:=zbT hd;obtain ⟨i,r,hi,hr,rfl⟩:=za6 hd;exact .inr (.inr (.inl ⟨(c:Int)+1,r,by omega,by omega,List.mem_of_getElem? hr,rfl⟩))
  ·obtain ⟨i,e,hi,he,rfl⟩:=za6 hd;exact .inr (.inr (.inr ⟨e,List.mem_of_getElem? he,rfl⟩))
 ·rintro (⟨j,h1,h5,rfl⟩ | ⟨c,p,h1,h4,hp,rfl⟩ | ⟨c,r,h1,h3,hr,rfl⟩ | ⟨e,he,rfl⟩)
  ·have hm:∀d∈zak B,d∈zaU B:=fun d hd=>by
    unfold zaU;simp only [List.mem_append];exact .inl (.inl (.inl hd))
   rcases (show j=1∨j=2∨j=3∨j=4∨j=5 by omega) with rfl | rfl | rfl | rfl | rfl
   ·exact ⟨nameD B.name,hm _ (by simp [zak]),rfl⟩
   ·exact ⟨numD [1,2] B.ticks,hm _ (by simp [zak]),rfl⟩
   ·exact ⟨numD [1,3] B.parse,hm _ (by simp [zak]),rfl⟩
   ·exact ⟨numD [1,4] B.word,hm _ (by simp [zak]),rfl⟩
   ·exact ⟨numD [1,5] B.drops,hm _ (by simp [zak]),rfl⟩
  ·obtain ⟨k,rfl⟩:∃k:Nat,c=(k:Int)+1:=⟨(c - 1).toNat,by omega⟩;obtain ⟨x,hx⟩:∃x,B.ports[p]? = some x:=⟨_,List.getElem?_eq_getElem hp⟩;refine ⟨portB B ((k:Int)+1) p x, ?_,rfl⟩;unfold zaU;simp only [List.mem_append];exact .inl (.inl (.inr (zdt (zcM hx hp) (by omega))))
  ·obtain ⟨k,rfl⟩:∃k:Nat,c=(k:Int)+1:=⟨(c - 1).toNat,by omega⟩;obtain ⟨i,hi⟩:=List.getElem?_of_mem hr;refine ⟨rowB ((k:Int)+1) i r, ?_,rfl⟩;unfold zaU;simp only [List.mem_append];exact .inl (.inr (zdt (zcM hi (List.getElem?_eq_some_iff.1 hi).1) (by omega)))
  ·obtain ⟨i,hi⟩:=List.getElem?_of_mem he;refine ⟨entB i e, ?_,rfl⟩;unfold zaU;simp only [List.mem_append];exact .inr (zcM hi (List.getElem?_eq_some_iff.1 hi).1)

theorem zeK {l:List FE} {t m:Int}:0≤atF l t m↔∃e∈l,e.t=t∧e.m=m:=by
 unfold atF
 split
 ·next i hi =>
  obtain ⟨h1,h2,-⟩:=List.findIdx?_eq_some_iff_getElem.1 hi;exact ⟨fun _=>⟨l[i],List.getElem_mem h1,zbl.1 h2⟩,fun _=>by omega⟩
 ·next hi =>
  refine ⟨fun h=>by omega, ?_⟩;rintro ⟨e,he,h1,h2⟩
  have:=List.findIdx?_eq_none_iff.1 hi e he
  rw [zbl.2 ⟨h1,h2⟩] at this;cases this

theorem zf4 (B:BR) (d e n:Int):zaw B [1,3,1,d,e,n]=pickK B d e n:=by
 unfold zaw;rw [if_neg (by simp),if_pos ⟨rfl,rfl⟩]
 rfl

theorem zfn {B:BR} {o:List Int} (h:Mid B) (hk:zaw B o=none):(∃d∈zaU B,d.o=o)↔seenB B o=true:=by
 rw [zhj]
 constructor
 ·rintro (⟨j,h1,h5,rfl⟩ | ⟨c,p,h1,h4,hp,rfl⟩ | ⟨c,r,h1,h3,hr,rfl⟩ | ⟨e,he,rfl⟩)
  ·have hj:j≠1:=by
    rintro rfl;unfold zaw at hk;rw [if_pos rfl] at hk;cases hk
   simp [seenB,in3]
   omega
  ·rw [zf4] at hk;unfold pickK at hk;rw [if_pos rfl] at hk;have hc:c=1∨c=3:=by
    by_cases hc:c=2∨c=4
    ·rw [if_pos ⟨hc,by omega,by omega⟩] at hk;cases hk
    ·omega
   simp [seenB,in3]
   omega
  ·rw [zf4] at hk;unfold pickK at hk;rw [if_neg (by decide),if_pos rfl] at hk;have hi:=(h.ri r hr).1;by_cases hc:c=1
   ·rw [if_pos ⟨hc,hi⟩] at hk;cases hk
   ·rw [if_neg (by omega),if_pos (by omega)] at hk;rw [Option.map_eq_none_iff] at hk;exact absurd rfl (zfh hk r hr)
  ·have:=(zeK (l:=B.f) (t:=e.t) (m:=e.m)).2 ⟨e,he,rfl,rfl⟩
   simp [seenB,this]
 ·intro hs;unfold seenB at hs;simp only [Bool.and_eq_true,Bool.or_eq_true,decide_eq_true_eq] at hs;obtain ⟨h3,hs⟩:=hs;rcases hs with ⟨hl,hd,he⟩ | ⟨hl,hd,he,hp⟩ | ⟨hl,hd,he,ha⟩
  ·refine .inl ⟨o.getD 4 0, ?_, ?_, ?_⟩
   ·unfold in3 at he; simp only [Bool.and_eq_true,decide_eq_true_eq] at he; omega
   ·unfold in3 at he; simp only [Bool.and_eq_true,decide_eq_true_eq] at he; omega
   ·have h6:=zi2 hl h3;rw [hd] at h6;exact h6
  ·unfold in3 at hp;simp only [Bool.and_eq_true,decide_eq_true_eq] at hp;refine .inr (.inl ⟨o.getD 4 0,(o.getD 5 0 - 1).toNat,by omega,by omega,by omega, ?_⟩);rw [show (((o.getD 5 0 - 1).toNat:Nat):Int)+1=o.getD 5 0 by omega];have h6:=zju hl h3;rw [hd] at h6;exact h6
  ·obtain ⟨e,hm,h5,h6⟩:=zeK.1 ha;refine .inr (.inr (.inr ⟨e,hm, ?_⟩));rw [h5,h6];have h7:=ziM hl h3;rw [he,hd] at h7;exact h7

theorem zd4 (a:Option Addr) (n c:Nat) (fa:Option Addr) (fn fc:Nat) (ra:Option Addr) (rn rc:Nat) (oa:Option Addr) (on oc:Nat) (B:BR) (w:World) (h:BrRow w a n c fa fn fc ra rn rc oa on oc B) (ok:MbOk B) :
  Calls Tryz.prog 193 #[.agg #[.int .i64 B.id,.string B.name,.slice a n c,.slice fa fn fc,.slice ra rn rc,.slice oa on oc,.int .i64 B.ticks,.int .i64 B.parse,.int .i64 B.word,.int .i64 B.drops,.int .i64 B.vers]] w fun e w'=>∃(ao:Option Addr) (cap:Nat) (l:List TH),e=.returned (.slice ao l.length cap)∧l.map TH.d=zaa (zai B) 4∧Things w' w.heap.size ao cap l∧Below w.heap.size w w':=by
 generalize hw1:w.alloc (Obj.cells #[.int .i64 B.id,.string B.name,.slice a n c,.slice fa fn fc,.slice ra rn rc,.slice oa on oc,.int .i64 B.ticks,.int .i64 B.parse,.int .i64 B.word,.int .i64 B.drops,.int .i64 B.vers] 31)=w1;have b1:=zb hw1;have k1:=zk hw1;have HH:=hide h;have hle:=h.ports.le;have htop:=h.ports.top;unfold maxLen at htop;have HLN:Hid (n=B.ports.length):=hide h.ports.size.symm;have hn12:n≤12:=by have:=h.ports.size; have:=ok.p; have:=ok.r; have:=ok.f; omega
 obtain ⟨x0,x1,x2,x3,x4,x5,x6,x7,x8,x9,x10⟩:=zj k1;go_enter Tryz.func193,Tryz.ntmps193;go_wp2_with fail
 clear x0 x1 x2 x3 x4 x5 x6 x7 x8 x9 x10 hw1
 go_loopw [3,4,8] (fun v3 u4 vj wr=>∃(j:Nat) (ao:Option Addr) (cap:Nat) (l:List TL),v3=.slice ao l.length cap∧vj=.int .i64 (j:Int)∧j≤n∧l.length=j∧(∀(i:Nat) (t:TL) x,l[i]? = some t→B.ports[i]? = some x→t.z=[(i:Int)+1])∧Tails wr w1.heap.size ao cap l∧Below w1.heap.size w1 wr) (fun _ _ vj _=>14 - (intOf vj).toNat)
 case atStart=>exact ⟨0,none,0,[],rfl,rfl,Nat.zero_le _,rfl,(by intro i t x hi; simp at hi),zdV _ _,Below.refl _ _⟩
 case round =>
  obtain ⟨j,ao,cap,l,rfl,rfl,hj,hlj,hz,tls,hb⟩:=hrel;have k2:=ze k1 hb;have hbw:=b1.size;by_cases hjn:j < n
  ·have hjn':(j:Int) < (n:Int):=by omega
   have hj12:(j:Int)≤12:=by omega
   obtain ⟨x,hx⟩:∃x,B.ports[j]? = some x:=⟨_,List.getElem?_eq_getElem (by have:=HLN.out; omega)⟩;have HX:=hide hx;have HZ:=hide hz;have HTL:=hide tls;have HB:=hide hb;have HLJ:=hide hlj;have HBW:Hid (w1.heap.size≤wr.heap.size):=hide hb.size;clear k2 tls hb hz hlj;(go_wp2_with fail);refine (zca (j:Int) (by omega) _).mono ?_;rintro e w5 ⟨rfl,ew⟩;obtain rfl:=ew.symm;have HBR:Hid (Below wr.heap.size wr wr):=hide (Below.refl _ _);generalize hwa:wr.alloc (Obj.cells #[.int .i64 ((j:Int)+1)] 3)=wa;have ba:=zb hwa;have ka:=zk hwa;generalize hwb:wa.alloc (Obj.cells #[.slice (some ⟨wr.heap.size,0,none⟩) 1 1] 27)=wb;have bb:=zb hwb;obtain ⟨y,hy⟩:∃y:TL,y=⟨some ⟨wr.heap.size,0,none⟩,1,1,[((j:Int)+1)]⟩:=⟨_,rfl⟩;have gone:GRow tlF wb (some ⟨wa.heap.size,0,none⟩) 1 1 [y]:=by rw [← hwb]; exact zaz tlF wa y _ _ (by rw [hy]; rfl)
   have HBY:Hid (Below wr.heap.size wr wb):=hide (zd (zd HBR.out ba) bb);have HOY:Hid (wb.ownsRow wr.heap.size 3 1 (.slice y.a y.n y.c) y.n (cI y.z)):=hide (by
    rw [hy]
    have:=zT intF (base:=wr.heap.size) (l:=[((j:Int)+1)]) ka rfl HBR.out.size (by simp)
    rw [← zF];exact zo this bb)
   have HIY:Hid (I64s y.z):=hide (by rw [hy]; intro z hz2; simp at hz2; omega);have HNY:Hid (y.n≤2):=hide (by rw [hy]; show 1≤2; omega);have HYZ:Hid (y.z=[(j:Int)+1]):=hide (by rw [hy]);have hrow:=(HTL.out.below HBY.out).row;have hl12:l.length≤12:=by have:=HLJ.out; omega
   have HBK:Hid (∀k,(Value.slice ao l.length cap).ownBlock=some k→w1.heap.size≤k):=hide (fun k hk=>(HTL.out.row.lt k hk).1);have hbw2:w1.heap.size≤wb.heap.size:=Nat.le_trans HBW.out HBY.out.size;clear ka hy ba bb;go_wp2_with (at_builtin; refine zw (F:=tlF) _ rfl _ _ 283 27 rfl w1.heap.size Tryz.underlying283 zhU rfl (by decide) _ l.length l rfl hrow (some ⟨wa.heap.size,0,none⟩) 1 1 [y] rfl gone (by omega) hbw2 ?_)
   intro ao2 cap2 we how2 _ hgr2 hb2;have HLN2:Hid ((l++[y]).length=l.length+1):=hide (by simp);have HT2:=hide (HTL.out.push (y:=y) HBY.out HOY.out HIY.out HNY.out HBW.out hgr2 (by rw [HLN2.out]; exact how2));have HB2:=hide ((zd HB.out HBY.out).grown hgr2 (Nat.le_trans HB.out.size HBY.out.size) (fun k hk=>HBK.out k hk));clear hrow gone hbw2 how2 hgr2 hb2 hwa hwb;have HZ2:Hid (∀(i:Nat) (t:TL) u,(l++[y])[i]? = some t→B.ports[i]? = some u→t.z=[(i:Int)+1]):=hide (by
    intro i t u hi hu;by_cases hil:i < l.length
    ·rw [List.getElem?_append_left hil] at hi;exact HZ.out i t u hi hu
    ·have hil2:=(List.getElem?_eq_some_iff.1 hi).1;rw [HLN2.out] at hil2;have hij:i=l.length:=by omega
     subst hij
     have:t=y:=by simpa using hi.symm
     rw [this,HYZ.out];rw [← HLJ.out] at HX
     have:=HX.out.symm.trans hu
     cases this;rw [HLJ.out])
   go_wp2
   go_roundw
   case rel=>exact ⟨j+1,ao2,cap2,l++[y],by rw [HLN2.out],by go_num,by omega,by rw [HLN2.out,HLJ.out],HZ2.out,HT2.out,HB2.out⟩
   case measure=>simp [intOf]; omega
  ·have hjn':¬(j:Int) < (n:Int):=by omega
   have hje:l.length=n:=by omega
   have hbs:=Nat.le_trans hbw hb.size;generalize hwc:wr.alloc (Obj.cells #[.func (.func 244) #[] #[.pointer (some ⟨w.heap.size,0,none⟩)],.func (.func 246) #[] #[.pointer (some ⟨w.heap.size,0,none⟩)],.func (.func 247) #[] #[.pointer (some ⟨w.heap.size,0,none⟩)],.func (.func 248) #[] #[.pointer (some ⟨w.heap.size,0,none⟩)]] 61)=wc;have bc:=zb hwc;have kc:=zk hwc;have hcl:=zE (F:=clF) (zT clF (base:=0) (l:=[⟨244,#[.pointer (some ⟨w.heap.size,0,none⟩)]⟩,⟨246,#[.pointer (some ⟨w.heap.size,0,none⟩)]⟩,⟨247,#[.pointer (some ⟨w.heap.size,0,none⟩)]⟩,⟨248,#[.pointer (some ⟨w.heap.size,0,none⟩)]⟩]) kc rfl (Nat.zero_le _) (by simp));have HBS:Hid (w.heap.size≤wc.heap.size):=hide (Nat.le_trans hbs bc.size);have HBC:=hide (zd (zd b1 hb) bc);have HKC:=hide (ze k2 bc);have tlr:=(tls.below bc).reads;have HZ:=hide hz;have hlen:=HLN.out;have HJE:=hide hje;clear k1 k2 kc b1 hb tls bc hz hlj hje;(go_wp2_with fail);refine (za0 2 _ l.length _ l _ 4 [⟨244,#[.pointer (some ⟨w.heap.size,0,none⟩)]⟩,⟨246,#[.pointer (some ⟨w.heap.size,0,none⟩)]⟩,⟨247,#[.pointer (some ⟨w.heap.size,0,none⟩)]⟩,⟨248,#[.pointer (some ⟨w.heap.size,0,none⟩)]⟩] (portG B) _ tlr.1 tlr.2 (by have:=HJE.out; omega) hcl (by omega) (by omega) ?_).mono ?_
   ·intro i j t ht;obtain ⟨x,hx⟩:∃x,B.ports[j]? = some x:=⟨_,List.getElem?_eq_getElem (by have:=(List.getElem?_eq_some_iff.1 ht).1; have:=HJE.out; omega)⟩;rw [HZ.out j t x ht hx];unfold portG;rw [hx]
    rfl
   rw [HJE.out];rintro e w3 ⟨ao,cap,l,rfl,hd,st⟩;have HB:=hide (zd HBC.out st.below);have KB:=hide (ze HKC.out st.below);have HT:Hid (Things w3 w.heap.size ao cap l):=hide (by
    refine zbY st (fun i cf hi => ?_) (fun i j => ?_) HBS.out
    ·have him:i < 4:=(List.getElem?_eq_some_iff.1 hi).1;rcases (show i=0∨i=1∨i=2∨i=3 by omega) with rfl | rfl | rfl | rfl
     ·cases hi;refine ⟨enters_of Tryz.func244 (by kernel_rfl) rfl,fun j hj w2 hw2 => ?_⟩;obtain ⟨x,hx⟩:∃x,B.ports[j]? = some x:=⟨_,List.getElem?_eq_getElem (by have:=HLN.out; omega)⟩;have hg:portG B 0 j=portB B 1 j x:=by unfold portG; rw [hx]; rfl
      rw [hg];exact zhu a n c fa fn fc ra rn rc oa on oc B j w.heap.size w2 (ze KB.out hw2) (HH.out.ports.below (zd HB.out hw2)) x hx
     ·cases hi;refine ⟨enters_of Tryz.func246 (by kernel_rfl) rfl,fun j hj w2 hw2 => ?_⟩;obtain ⟨x,hx⟩:∃x,B.ports[j]? = some x:=⟨_,List.getElem?_eq_getElem (by have:=HLN.out; omega)⟩;have hg:portG B 1 j=portB B 2 j x:=by unfold portG; rw [hx]; rfl
      rw [hg];exact zhv a n c fa fn fc ra rn rc oa on oc B j w.heap.size w2 (ze KB.out hw2) (HH.out.ports.below (zd HB.out hw2)) x hx
     ·cases hi;refine ⟨enters_of Tryz.func247 (by kernel_rfl) rfl,fun j hj w2 hw2 => ?_⟩;obtain ⟨x,hx⟩:∃x,B.ports[j]? = some x:=⟨_,List.getElem?_eq_getElem (by have:=HLN.out; omega)⟩;have hg:portG B 2 j=portB B 3 j x:=by unfold portG; rw [hx]; rfl
      rw [hg];exact zhw a n c fa fn fc ra rn rc oa on oc B j w.heap.size w2 (ze KB.out hw2) (HH.out.ports.below (zd HB.out hw2)) x
     ·cases hi;refine ⟨enters_of Tryz.func248 (by kernel_rfl) rfl,fun j hj w2 hw2 => ?_⟩;obtain ⟨x,hx⟩:∃x,B.ports[j]? = some x:=⟨_,List.getElem?_eq_getElem (by have:=HLN.out; omega)⟩;have hg:portG B 3 j=portB B 4 j x:=by unfold portG; rw [hx]; rfl
      rw [hg];exact zhx a n c fa fn fc ra rn rc oa on oc B j w.heap.size w2 (ze KB.out hw2) (HH.out.v.own.below (zd HB.out hw2)) (by have:=HLN.out; have:=HH.out.v.own.size; have:=ok.o; omega) x
    ·unfold portG
     split
     all_goals exact ⟨rfl,Nat.zero_le _⟩
    )
   have HD:=hide hd;clear hd st;go_wp2;go_ret;exact ⟨ao,cap,l,rfl,(by rw [HD.out,HLN.out]; exact zhy B),HT.out,HB.out⟩
   

theorem zes (a:Option Addr) (n c:Nat) (fa:Option Addr) (fn fc:Nat) (ra:Option Addr) (rn rc:Nat) (oa:Option Addr) (on oc:Nat) (B:BR) (w:World) (h:BrRow w a n c fa fn fc ra rn rc oa on oc B) (ok:MbOk B) :
  Calls Tryz.prog 194 #[.agg #[.int .i64 B.id,.string B.name,.slice a n c,.slice fa fn fc,.slice ra rn rc,.slice oa on oc,.int .i64 B.ticks,.int .i64 B.parse,.int .i64 B.word,.int .i64 B.drops,.int .i64 B.vers]] w fun e w'=>∃(ao:Option Addr) (cap:Nat) (l:List TH),e=.returned (.slice ao l.length cap)∧l.map TH.d=zaa (zaK B) 3∧Things w' w.heap.size ao cap l∧Below w.heap.size w w':=by
 generalize hw1:w.alloc (Obj.cells #[.int .i64 B.id,.string B.name,.slice a n c,.slice fa fn fc,.slice ra rn rc,.slice oa on oc,.int .i64 B.ticks,.int .i64 B.parse,.int .i64 B.word,.int .i64 B.drops,.int .i64 B.vers] 31)=w1;have b1:=zb hw1;have k1:=zk hw1;have HH:=hide h;have hle:=h.v.rows.le;have htop:=h.v.rows.top;unfold maxLen at htop;have HLN:Hid (rn=B.v.rows.length):=hide h.v.rows.size.symm;have hn12:rn≤12:=by have:=h.v.rows.size; have:=ok.p; have:=ok.r; have:=ok.f; omega
 obtain ⟨x0,x1,x2,x3,x4,x5,x6,x7,x8,x9,x10⟩:=zj k1;go_enter Tryz.func194,Tryz.ntmps194;go_wp2_with fail
 clear x0 x1 x2 x3 x4 x5 x6 x7 x8 x9 x10 hw1
 go_loopw [3,5,10] (fun v3 u5 vj wr=>∃(j:Nat) (ao:Option Addr) (cap:Nat) (l:List TL),v3=.slice ao l.length cap∧vj=.int .i64 (j:Int)∧j≤rn∧l.length=j∧(∀(i:Nat) (t:TL) x,l[i]? = some t→B.v.rows[i]? = some x→t.z=[x.i])∧Tails wr w1.heap.size ao cap l∧Below w1.heap.size w1 wr) (fun _ _ vj _=>14 - (intOf vj).toNat)
 case atStart=>exact ⟨0,none,0,[],rfl,rfl,Nat.zero_le _,rfl,(by intro i t x hi; simp at hi),zdV _ _,Below.refl _ _⟩
 case round =>
  obtain ⟨j,ao,cap,l,rfl,rfl,hj,hlj,hz,tls,hb⟩:=hrel;have k2:=ze k1 hb;have hbw:=b1.size;by_cases hjn:j < rn
  ·have hjn':(j:Int) < (rn:Int):=by omega
   have hj12:(j:Int)≤12:=by omega
   obtain ⟨x,hx⟩:∃x,B.v.rows[j]? = some x:=⟨_,List.getElem?_eq_getElem (by have:=HLN.out; omega)⟩;have HX:=hide hx;have HZ:=hide hz;have HTL:=hide tls;have HB:=hide hb;have HLJ:=hide hlj;have HBW:Hid (w1.heap.size≤wr.heap.size):=hide hb.size;obtain ⟨x',rb,off,hx',hra,c0,c1,c2⟩:=zaI (HH.out.v.rows.below (zd b1 hb)) j hjn;rw [hx] at hx';cases hx';subst hra;generalize hwz:wr.alloc (Obj.cells #[.int .i64 0,.int .i64 0,.int .i64 0] 119)=wz;have bz:=zb hwz;have kz:=zk hwz;obtain ⟨⟨p0,p1,p2⟩,f0,f1,f2⟩:=zas kz;have d0:=(bz.cell (zu c0)).trans c0;have d1:=(bz.cell (zu c1)).trans c1;have d2:=(bz.cell (zu c2)).trans c2;clear k2 tls hb hz hlj;(go_upto_region 5 with fail);clear p0 f0 c0 d0 p1 f1 c1 d1 p2 f2 c2 d2 hwz;refine zgy kz _ _ _ (fun ws ks gs => ?_);have HBR:Hid (Below wr.heap.size wr ws):=hide (bz.grown gs bz.size (fun b hb2=>by cases hb2; exact Nat.le_refl _));obtain ⟨⟨p0,p1,p2⟩,-⟩:=zas ks;clear bz kz gs;have hxi:=ok.ri x (List.mem_of_getElem? HX.out);generalize hwa:ws.alloc (Obj.cells #[.int .i64 x.i] 3)=wa;have ba:=zb hwa;have ka:=zk hwa;generalize hwb:wa.alloc (Obj.cells #[.slice (some ⟨ws.heap.size,0,none⟩) 1 1] 27)=wb;have bb:=zb hwb;obtain ⟨y,hy⟩:∃y:TL,y=⟨some ⟨ws.heap.size,0,none⟩,1,1,[x.i]⟩:=⟨_,rfl⟩;have gone:GRow tlF wb (some ⟨wa.heap.size,0,none⟩) 1 1 [y]:=by rw [← hwb]; exact zaz tlF wa y _ _ (by rw [hy]; rfl)
   have HBY:Hid (Below wr.heap.size wr wb):=hide (zd (zd HBR.out ba) bb);have HOY:Hid (wb.ownsRow wr.heap.size 3 1 (.slice y.a y.n y.c) y.n (cI y.z)):=hide (by
    rw [hy]
    have:=zT intF (base:=wr.heap.size) (l:=[x.i]) ka rfl HBR.out.size (by simp)
    rw [← zF];exact zo this bb)
   have HIY:Hid (I64s y.z):=hide (by rw [hy]; intro z hz2; simp at hz2; omega);have HNY:Hid (y.n≤2):=hide (by rw [hy]; show 1≤2; omega);have HYZ:Hid (y.z=[x.i]):=hide (by rw [hy]);have hrow:=(HTL.out.below HBY.out).row;have hl12:l.length≤12:=by have:=HLJ.out; omega
   have HBK:Hid (∀k,(Value.slice ao l.length cap).ownBlock=some k→w1.heap.size≤k):=hide (fun k hk=>(HTL.out.row.lt k hk).1);have hbw2:w1.heap.size≤wb.heap.size:=Nat.le_trans HBW.out HBY.out.size;clear ka hy ba bb;go_wp2_with (at_builtin; refine zw (F:=tlF) _ rfl _ _ 283 27 rfl w1.heap.size Tryz.underlying283 zhU rfl (by decide) _ l.length l rfl hrow (some ⟨wa.heap.size,0,none⟩) 1 1 [y] rfl gone (by omega) hbw2 ?_)
   intro ao2 cap2 we how2 _ hgr2 hb2;have HLN2:Hid ((l++[y]).length=l.length+1):=hide (by simp);have HT2:=hide (HTL.out.push (y:=y) HBY.out HOY.out HIY.out HNY.out HBW.out hgr2 (by rw [HLN2.out]; exact how2));have HB2:=hide ((zd HB.out HBY.out).grown hgr2 (Nat.le_trans HB.out.size HBY.out.size) (fun k hk=>HBK.out k hk));clear hrow gone hbw2 how2 hgr2 hb2 hwa hwb;have HZ2:Hid (∀(i:Nat) (t:TL) u,(l++[y])[i]? = some t→B.v.rows[i]? = some u→t.z=[u.i]):=hide (by
    intro i t u hi hu;by_cases hil:i < l.length
    ·rw [List.getElem?_append_left hil] at hi;exact HZ.out i t u hi hu
    ·have hil2:=(List.getElem?_eq_some_iff.1 hi).1;rw [HLN2.out] at hil2;have hij:i=l.length:=by omega
     subst hij
     have:t=y:=by simpa using hi.symm
     rw [this,HYZ.out];rw [← HLJ.out] at HX
     have:=HX.out.symm.trans hu
     cases this
     rfl)
   go_wp2
   go_roundw
   case rel=>exact ⟨j+1,ao2,cap2,l++[y],by rw [HLN2.out],by go_num,by omega,by rw [HLN2.out,HLJ.out],HZ2.out,HT2.out,HB2.out⟩
   case measure=>simp [intOf]; omega
  ·have hjn':¬(j:Int) < (rn:Int):=by omega
   have hje:l.length=rn:=by omega
   have hbs:=Nat.le_trans hbw hb.size;generalize hwc:wr.alloc (Obj.cells #[.func (.func 249) #[] #[],.func (.func 250) #[] #[.pointer (some ⟨w.heap.size,0,none⟩)],.func (.func 251) #[] #[.pointer (some ⟨w.heap.size,0,none⟩)]] 61)=wc;have bc:=zb hwc;have kc:=zk hwc;have hcl:=zE (F:=clF) (zT clF (base:=0) (l:=[⟨249,#[]⟩,⟨250,#[.pointer (some ⟨w.heap.size,0,none⟩)]⟩,⟨251,#[.pointer (some ⟨w.heap.size,0,none⟩)]⟩]) kc rfl (Nat.zero_le _) (by simp));have HBS:Hid (w.heap.size≤wc.heap.size):=hide (Nat.le_trans hbs bc.size);have HBC:=hide (zd (zd b1 hb) bc);have HKC:=hide (ze k2 bc);have tlr:=(tls.below bc).reads;have HZ:=hide hz;have hlen:=HLN.out;have HJE:=hide hje;clear k1 k2 kc b1 hb tls bc hz hlj hje;(go_wp2_with fail);refine (za0 3 _ l.length _ l _ 3 [⟨249,#[]⟩,⟨250,#[.pointer (some ⟨w.heap.size,0,none⟩)]⟩,⟨251,#[.pointer (some ⟨w.heap.size,0,none⟩)]⟩] (rowG B) _ tlr.1 tlr.2 (by have:=HJE.out; omega) hcl (by omega) (by omega) ?_).mono ?_
   ·intro i j t ht;obtain ⟨x,hx⟩:∃x,B.v.rows[j]? = some x:=⟨_,List.getElem?_eq_getElem (by have:=(List.getElem?_eq_some_iff.1 ht).1; have:=HJE.out; omega)⟩;rw [HZ.out j t x ht hx];unfold rowG;rw [hx]
    rfl
   rw [HJE.out];rintro e w3 ⟨ao,cap,l,rfl,hd,st⟩;have HB:=hide (zd HBC.out st.below);have KB:=hide (ze HKC.out st.below);have HT:Hid (Things w3 w.heap.size ao cap l):=hide (by
    refine zbY st (fun i cf hi => ?_) (fun i j => ?_) HBS.out
    ·have him:i < 3:=(List.getElem?_eq_some_iff.1 hi).1;rcases (show i=0∨i=1∨i=2 by omega) with rfl | rfl | rfl
     ·cases hi;refine ⟨enters_of Tryz.func249 (by kernel_rfl) rfl,fun j hj w2 hw2 => ?_⟩;obtain ⟨x,hx⟩:∃x,B.v.rows[j]? = some x:=⟨_,List.getElem?_eq_getElem (by have:=HLN.out; omega)⟩;have hg:rowG B 0 j=rowB 1 j x:=by unfold rowG; rw [hx]; rfl
      rw [hg];exact ziA (j:Int) w2
     ·cases hi;refine ⟨enters_of Tryz.func250 (by kernel_rfl) rfl,fun j hj w2 hw2 => ?_⟩;obtain ⟨x,hx⟩:∃x,B.v.rows[j]? = some x:=⟨_,List.getElem?_eq_getElem (by have:=HLN.out; omega)⟩;have hg:rowG B 1 j=rowB 2 j x:=by unfold rowG; rw [hx]; rfl
      rw [hg];exact ziB a n c fa fn fc ra rn rc oa on oc B j w.heap.size w2 (ze KB.out hw2) (HH.out.v.rows.below (zd HB.out hw2)) x hx
     ·cases hi;refine ⟨enters_of Tryz.func251 (by kernel_rfl) rfl,fun j hj w2 hw2 => ?_⟩;obtain ⟨x,hx⟩:∃x,B.v.rows[j]? = some x:=⟨_,List.getElem?_eq_getElem (by have:=HLN.out; omega)⟩;have hg:rowG B 2 j=rowB 3 j x:=by unfold rowG; rw [hx]; rfl
      rw [hg];exact ziC a n c fa fn fc ra rn rc oa on oc B j w.heap.size w2 (ze KB.out hw2) (HH.out.v.rows.below (zd HB.out hw2)) x hx
    ·unfold rowG
     split
     all_goals exact ⟨rfl,Nat.zero_le _⟩
    )
   have HD:=hide hd;clear hd st;go_wp2;go_ret;exact ⟨ao,cap,l,rfl,(by rw [HD.out,HLN.out]; exact ziE B),HT.out,HB.out⟩
   

theorem zeq (a:Option Addr) (n c:Nat) (fa:Option Addr) (fn fc:Nat) (ra:Option Addr) (rn rc:Nat) (oa:Option Addr) (on oc:Nat) (B:BR) (w:World) (h:BrRow w a n c fa fn fc ra rn rc oa on oc B) (ok:MbOk B) :
  Calls Tryz.prog 195 #[.agg #[.int .i64 B.id,.string B.name,.slice a n c,.slice fa fn fc,.slice ra rn rc,.slice oa on oc,.int .i64 B.ticks,.int .i64 B.parse,.int .i64 B.word,.int .i64 B.drops,.int .i64 B.vers]] w fun e w'=>∃(ao:Option Addr) (cap:Nat) (l:List TH),e=.returned (.slice ao l.length cap)∧l.map TH.d=zdJ B∧Things w' w.heap.size ao cap l∧Below w.heap.size w w':=by
 generalize hw1:w.alloc (Obj.cells #[.int .i64 B.id,.string B.name,.slice a n c,.slice fa fn fc,.slice ra rn rc,.slice oa on oc,.int .i64 B.ticks,.int .i64 B.parse,.int .i64 B.word,.int .i64 B.drops,.int .i64 B.vers] 31)=w1;have b1:=zb hw1;have k1:=zk hw1;have HH:=hide h;have hle:=h.f.le;have htop:=h.f.top;unfold maxLen at htop;have HLN:Hid (fn=B.f.length):=hide h.f.size.symm;have hn12:fn≤12:=by have:=h.f.size; have:=ok.p; have:=ok.r; have:=ok.f; omega
 obtain ⟨x0,x1,x2,x3,x4,x5,x6,x7,x8,x9,x10⟩:=zj k1;go_enter Tryz.func195,Tryz.ntmps195;go_wp2_with fail
 clear x0 x1 x2 x3 x4 x5 x6 x7 x8 x9 x10 hw1
 go_loopw [3,5,9] (fun v3 u5 vj wr=>∃(j:Nat) (ao:Option Addr) (cap:Nat) (l:List TL),v3=.slice ao l.length cap∧vj=.int .i64 (j:Int)∧j≤fn∧l.length=j∧(∀(i:Nat) (t:TL) x,l[i]? = some t→B.f[i]? = some x→t.z=[x.t,x.m])∧Tails wr w1.heap.size ao cap l∧Below w1.heap.size w1 wr) (fun _ _ vj _=>14 - (intOf vj).toNat)
 case atStart=>exact ⟨0,none,0,[],rfl,rfl,Nat.zero_le _,rfl,(by intro i t x hi; simp at hi),zdV _ _,Below.refl _ _⟩
 case round =>
  obtain ⟨j,ao,cap,l,rfl,rfl,hj,hlj,hz,tls,hb⟩:=hrel;have k2:=ze k1 hb;have hbw:=b1.size;by_cases hjn:j < fn
  ·have hjn':(j:Int) < (fn:Int):=by omega
   have hj12:(j:Int)≤12:=by omega
   obtain ⟨x,hx⟩:∃x,B.f[j]? = some x:=⟨_,List.getElem?_eq_getElem (by have:=HLN.out; omega)⟩;have HX:=hide hx;have HZ:=hide hz;have HTL:=hide tls;have HB:=hide hb;have HLJ:=hide hlj;have HBW:Hid (w1.heap.size≤wr.heap.size):=hide hb.size;obtain ⟨x',rb,off,hx',hra,c0,c1,c2,c3,c4⟩:=zbi (HH.out.f.below (zd b1 hb)) j hjn;rw [hx] at hx';cases hx';subst hra;generalize hwz:wr.alloc (Obj.cells #[.int .i64 0,.int .i64 0,.int .i64 0,.int .i64 0,.bool false] 116)=wz;have bz:=zb hwz;have kz:=zk hwz;obtain ⟨⟨p0,p1,p2,p3,p4⟩,f0,f1,f2,f3,f4⟩:=zt kz;have d0:=(bz.cell (zu c0)).trans c0;have d1:=(bz.cell (zu c1)).trans c1;have d2:=(bz.cell (zu c2)).trans c2;have d3:=(bz.cell (zu c3)).trans c3;have d4:=(bz.cell (zu c4)).trans c4;clear k2 tls hb hz hlj;(go_upto_region 5 with fail);clear p0 f0 c0 d0 p1 f1 c1 d1 p2 f2 c2 d2 p3 f3 c3 d3 p4 f4 c4 d4 hwz;refine zhg kz _ _ _ _ _ (fun ws ks gs => ?_);have HBR:Hid (Below wr.heap.size wr ws):=hide (bz.grown gs bz.size (fun b hb2=>by cases hb2; exact Nat.le_refl _));obtain ⟨⟨p0,p1,p2,p3,p4⟩,-⟩:=zt ks;clear bz kz gs;have hxi:=ok.fi x (List.mem_of_getElem? HX.out);generalize hwa:ws.alloc (Obj.cells #[.int .i64 x.t,.int .i64 x.m] 3)=wa;have ba:=zb hwa;have ka:=zk hwa;generalize hwb:wa.alloc (Obj.cells #[.slice (some ⟨ws.heap.size,0,none⟩) 2 2] 27)=wb;have bb:=zb hwb;obtain ⟨y,hy⟩:∃y:TL,y=⟨some ⟨ws.heap.size,0,none⟩,2,2,[x.t,x.m]⟩:=⟨_,rfl⟩;have gone:GRow tlF wb (some ⟨wa.heap.size,0,none⟩) 1 1 [y]:=by rw [← hwb]; exact zaz tlF wa y _ _ (by rw [hy]; rfl)
   have HBY:Hid (Below wr.heap.size wr wb):=hide (zd (zd HBR.out ba) bb);have HOY:Hid (wb.ownsRow wr.heap.size 3 1 (.slice y.a y.n y.c) y.n (cI y.z)):=hide (by
    rw [hy]
    have:=zT intF (base:=wr.heap.size) (l:=[x.t,x.m]) ka rfl HBR.out.size (by simp)
    rw [← zF];exact zo this bb)
   have HIY:Hid (I64s y.z):=hide (by rw [hy]; intro z hz2; simp at hz2; omega);have HNY:Hid (y.n≤2):=hide (by rw [hy]; show 2≤2; omega);have HYZ:Hid (y.z=[x.t,x.m]):=hide (by rw [hy]);have hrow:=(HTL.out.below HBY.out).row;have hl12:l.length≤12:=by have:=HLJ.out; omega
   have HBK:Hid (∀k,(Value.slice ao l.length cap).ownBlock=some k→w1.heap.size≤k):=hide (fun k hk=>(HTL.out.row.lt k hk).1);have hbw2:w1.heap.size≤wb.heap.size:=Nat.le_trans HBW.out HBY.out.size;clear ka hy ba bb;go_wp2_with (at_builtin; refine zw (F:=tlF) _ rfl _ _ 283 27 rfl w1.heap.size Tryz.underlying283 zhU rfl (by decide) _ l.length l rfl hrow (some ⟨wa.heap.size,0,none⟩) 1 1 [y] rfl gone (by omega) hbw2 ?_)
   intro ao2 cap2 we how2 _ hgr2 hb2;have HLN2:Hid ((l++[y]).length=l.length+1):=hide (by simp);have HT2:=hide (HTL.out.push (y:=y) HBY.out HOY.out HIY.out HNY.out HBW.out hgr2 (by rw [HLN2.out]; exact how2));have HB2:=hide ((zd HB.out HBY.out).grown hgr2 (Nat.le_trans HB.out.size HBY.out.size) (fun k hk=>HBK.out k hk));clear hrow gone hbw2 how2 hgr2 hb2 hwa hwb;have HZ2:Hid (∀(i:Nat) (t:TL) u,(l++[y])[i]? = some t→B.f[i]? = some u→t.z=[u.t,u.m]):=hide (by
    intro i t u hi hu;by_cases hil:i < l.length
    ·rw [List.getElem?_append_left hil] at hi;exact HZ.out i t u hi hu
    ·have hil2:=(List.getElem?_eq_some_iff.1 hi).1;rw [HLN2.out] at hil2;have hij:i=l.length:=by omega
     subst hij
     have:t=y:=by simpa using hi.symm
     rw [this,HYZ.out];rw [← HLJ.out] at HX
     have:=HX.out.symm.trans hu
     cases this
     rfl)
   go_wp2
   go_roundw
   case rel=>exact ⟨j+1,ao2,cap2,l++[y],by rw [HLN2.out],by go_num,by omega,by rw [HLN2.out,HLJ.out],HZ2.out,HT2.out,HB2.out⟩
   case measure=>simp [intOf]; omega
  ·have hjn':¬(j:Int) < (fn:Int):=by omega
   have hje:l.length=fn:=by omega
   have hbs:=Nat.le_trans hbw hb.size;generalize hwc:wr.alloc (Obj.cells #[.func (.func 252) #[] #[.pointer (some ⟨w.heap.size,0,none⟩)]] 61)=wc;have bc:=zb hwc;have kc:=zk hwc;have hcl:=zE (F:=clF) (zT clF (base:=0) (l:=[⟨252,#[.pointer (some ⟨w.heap.size,0,none⟩)]⟩]) kc rfl (Nat.zero_le _) (by simp));have HBS:Hid (w.heap.size≤wc.heap.size):=hide (Nat.le_trans hbs bc.size);have HBC:=hide (zd (zd b1 hb) bc);have HKC:=hide (ze k2 bc);have tlr:=(tls.below bc).reads;have HZ:=hide hz;have hlen:=HLN.out;have HJE:=hide hje;clear k1 k2 kc b1 hb tls bc hz hlj hje;(go_wp2_with fail);refine (za0 4 _ l.length _ l _ 1 [⟨252,#[.pointer (some ⟨w.heap.size,0,none⟩)]⟩] (entG B) _ tlr.1 tlr.2 (by have:=HJE.out; omega) hcl (by omega) (by omega) ?_).mono ?_
   ·intro i j t ht;obtain ⟨x,hx⟩:∃x,B.f[j]? = some x:=⟨_,List.getElem?_eq_getElem (by have:=(List.getElem?_eq_some_iff.1 ht).1; have:=HJE.out; omega)⟩;rw [HZ.out j t x ht hx];unfold entG;rw [hx]
   rw [HJE.out];rintro e w3 ⟨ao,cap,l,rfl,hd,st⟩;have HB:=hide (zd HBC.out st.below);have KB:=hide (ze HKC.out st.below);have HT:Hid (Things w3 w.heap.size ao cap l):=hide (by
    refine zbY st (fun i cf hi => ?_) (fun i j => ?_) HBS.out
    ·have him:i < 1:=(List.getElem?_eq_some_iff.1 hi).1;rcases (show i=0 by omega) with rfl
     ·cases hi;refine ⟨enters_of Tryz.func252 (by kernel_rfl) rfl,fun j hj w2 hw2 => ?_⟩;obtain ⟨x,hx⟩:∃x,B.f[j]? = some x:=⟨_,List.getElem?_eq_getElem (by have:=HLN.out; omega)⟩;have hg:entG B 0 j=entB j x:=by unfold entG; rw [hx]; rfl
      rw [hg];exact zh8 a n c fa fn fc ra rn rc oa on oc B j w.heap.size w2 (ze KB.out hw2) (HH.out.f.below (zd HB.out hw2)) x hx (ok.fi x (List.mem_of_getElem? hx)).2.2
    ·unfold entG
     split
     all_goals exact ⟨rfl,Nat.zero_le _⟩
    )
   have HD:=hide hd;clear hd st;go_wp2;go_ret;exact ⟨ao,cap,l,rfl,(by rw [HD.out,HLN.out]; exact zh9 B),HT.out,HB.out⟩
   

theorem zgH {w:World} {X:Nat} {c0 c1 c2 c3 c4 c5 c6 c7 c8 c9 c10:Value} {T:TypeId} (h:w.heap[X]? = some (.cells #[c0,c1,c2,c3,c4,c5,c6,c7,c8,c9,c10] T)) (u0 u1 u2 u3 u4 u5 u6 u7 u8 u9 u10:Value):(((((((((((w.setCell ⟨X,0,none⟩ u0).setCell ⟨X,1,none⟩ u1).setCell ⟨X,2,none⟩ u2).setCell ⟨X,3,none⟩ u3).setCell ⟨X,4,none⟩ u4).setCell ⟨X,5,none⟩ u5).setCell ⟨X,6,none⟩ u6).setCell ⟨X,7,none⟩ u7).setCell ⟨X,8,none⟩ u8).setCell ⟨X,9,none⟩ u9).setCell ⟨X,10,none⟩ u10).heap[X]? = some (.cells #[u0,u1,u2,u3,u4,u5,u6,u7,u8,u9,u10] T):=by
 have h':=(box11 (box11 (box11 (box11 (box11 (box11 (box11 (box11 (box11 (box11 (box11 h 0 u0) 1 u1) 2 u2) 3 u3) 4 u4) 5 u5) 6 u6) 7 u7) 8 u8) 9 u9) 10 u10);simp only [lA,lB,lC] at h';exact h'

theorem zgw {W:World} {X:Nat} {c0 c1 c2 c3 c4 c5 c6 c7 c8 c9 c10:Value} {T:TypeId} {K:World→Prop} (hk:W.heap[X]? = some (.cells #[c0,c1,c2,c3,c4,c5,c6,c7,c8,c9,c10] T)) (u0 u1 u2 u3 u4 u5 u6 u7 u8 u9 u10:Value) (h:∀wq,wq.heap[X]? = some (.cells #[u0,u1,u2,u3,u4,u5,u6,u7,u8,u9,u10] T)→W.grownBy wq (some X)→K wq):K (((((((((((W.setCell ⟨X,0,none⟩ u0).setCell ⟨X,1,none⟩ u1).setCell ⟨X,2,none⟩ u2).setCell ⟨X,3,none⟩ u3).setCell ⟨X,4,none⟩ u4).setCell ⟨X,5,none⟩ u5).setCell ⟨X,6,none⟩ u6).setCell ⟨X,7,none⟩ u7).setCell ⟨X,8,none⟩ u8).setCell ⟨X,9,none⟩ u9).setCell ⟨X,10,none⟩ u10) :=
 h _ (zgH hk u0 u1 u2 u3 u4 u5 u6 u7 u8 u9 u10) (zaq (zaq (zaq (zaq (zaq (zaq (zaq (zaq (zaq (zaq (zl _ _) (zl _ _)) (zl _ _)) (zl _ _)) (zl _ _)) (zl _ _)) (zl _ _)) (zl _ _)) (zl _ _)) (zl _ _)) (zl _ _))

theorem BrOwn.grownBox {w w':World} {base:Nat} {a:Option Addr} {n c:Nat} {fa:Option Addr} {fn fc:Nat} {ra:Option Addr} {rn rc:Nat} {oa:Option Addr} {on oc:Nat} {B:BR} (h:BrOwn w base a n c fa fn fc ra rn rc oa on oc B) {X:Nat} {cs:Array Value} (hX:w.heap[X]? = some (.cells cs 31)) (hg:w.grownBy w' (some X)):BrOwn w' base a n c fa fn fc ra rn rc oa on oc B :=
 ⟨zC h.ports hg (zaf h.ports hX (by decide)),zC h.f hg (zaf h.f hX (by decide)),⟨zC h.v.rows hg (zaf h.v.rows hX (by decide)),zC h.v.own hg (zaf h.v.own hX (by decide)),h.v.i64⟩⟩

theorem zhe (C:Nat) (a0:Option Addr) (l0 c0:Nat) (z0:List Int) (w:World) (hc:Cur w C a0 l0 c0 z0) :
  Calls Tryz.prog 110 #[.pointer (some ⟨C,0,none⟩)] w fun e w'=>∃y:Int,e=.returned (.int .i64 y)∧11≤y∧y≤14∧Went w w' C a0 l0 c0 z0:=by
 go_enter Tryz.func110,Tryz.ntmps110;go_wp2_with fail
 refine (zbN C a0 l0 c0 z0 [11,12,13,14] _ _ w hc rfl rfl (by simp) (by simp)).mono ?_;rintro e w2 ⟨y,hy,rfl,went2⟩;have hy:11≤y∧y≤14:=by simp at hy; omega
 go_wp2;go_ret;exact ⟨_,rfl,hy.1,hy.2,went2⟩

theorem zho {l:List FE} (h:fdbOk l=true):l.length≤12:=((zaW l).1 h).2
theorem ok_rng {l:List FE} (h:fdbOk l=true):∀x∈l,x.Rng:=fun x hx=>zi1 ((((zaW l).1 h).1).1 x hx)

end Go.Proofs.YtcpdkcdfnpcemaaGreat
