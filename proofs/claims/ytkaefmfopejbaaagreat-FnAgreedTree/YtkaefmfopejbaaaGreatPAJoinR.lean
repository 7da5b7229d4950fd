/-
  Who is reached by going on from each bridge once: the program's word.
-/
import Derived.Test.YtkaefmfopejbaaaGreatPAK20
import Derived.Deep.LoopGhost
import Derived.Maps.OwnOps
namespace Go.Proofs.YtkaefmfopejbaaaGreat
set_option maxRecDepth 100000
set_option maxHeartbeats 16000000
open Go.RowKit

section
open Go.RowKit Go.Maps

theorem keyI:Keyed Tryz.prog 3:=int_keyed Tryz.underlying3
theorem zeroE (w:World):(zeroValue 79).run Tryz.prog w=.ok (.agg #[]) w:=by kernel_rfl
theorem zlF {n:Int} (h : -9223372036854775808≤n∧n≤9223372036854775807):(Lit.int .i64 n).wf=true:=by
 simp [Lit.wf,IntKind.min,IntKind.max,IntKind.bits,IntKind.signed]
 omega
theorem zbq {P:Program} {k:TypeId} {R:Value→Option (DataW Unit × List MemPlace)} {w w':World} {b n:Nat} {D:DataW Unit} (h:w.ownsMap P k R b n D) (hb:Below w.heap.size w w'):w'.ownsMap P k R b n D:=by
 have hlt:=h.lt;obtain ⟨es,clock,h1,r⟩:=h;exact ⟨es,clock,(hb.block b hlt).trans h1,r⟩
theorem zle {P:Program} {k:TypeId} {R:Value→Option (DataW Unit × List MemPlace)} {w:World} {b n base:Nat} {D:DataW Unit} {T:TypeId} {v:Value} {l:List Int} (hq:QOwn w base T v l) (h:w.ownsMap P k R b n D):∀j,v.ownBlock=some j→some b≠some j:=by
 obtain ⟨es,clock,h1,-⟩:=h;obtain ⟨g,off,cap,cur,rfl,-,hg,-⟩:=hq;intro j hj e;simp only [Value.ownBlock,Option.some.injEq] at hj;cases e;subst hj;rw [hg] at h1;cases h1

theorem zeD {P:Program} (w:World) {ops:Array Oper} {rest:List Oper} {o:Oper} {a:Act} {Q:Exit→Act→World→Prop} (hg:o.guard=none) (m x v:Operand) (t:TypeId) (hop:o.op=Op.insert t m x v)
  (k e:TypeId) (K:Keyed P k) (ht:P.underlying t=some (.map k e)) (R:Value→Option (DataW Unit × List MemPlace)) (b n:Nat) (D:DataW Unit)
  (hm:a.eval m=.map (some b)) (hown:w.ownsMap P k R b n D) (hn:n < maxLen) (key val:Value) (kl:Lit) (hx:a.eval x=key) (hv:a.eval v=val) (hkey:keyOf P k key=some kl)
  (d:DataW Unit) (ps:List MemPlace) (hval:R val=some (d,ps))
  (hK:∀w',w'.ownsMap P k R b (n+1) (D.put kl d)→w.mapTurned w' b→wpList P ops Q rest (a.put o.dst undef) w') :
  wpList P ops Q (o::rest) a w:=by
 refine wpList_plain hg fun K' hK' => ?_
 obtain ⟨w',hrun,r1,r2⟩:=hown.store K ht hn hkey hval;unfold Oper.wp
 simp [execOp,hop,hm,hx,hv,hrun,Result.andThen]
 exact hK' _ _ (hK w' r1 r2)

theorem zdO (T:List LK) (nb:Nat) (b:Int) (ta:Option Addr) (tn tc:Nat) (w:World) (hT:GRow linkF w ta tn tc T) (hT2:∀x∈T,inB nb x.a=true∧inB nb x.b=true) (hb0:inB nb b=true) (hnb:nb≤1048576) :
  Calls Tryz.prog 34 #[.int .i64 b,.slice ta tn tc] w fun e w'=>∃S:List Int,e=.returned (.map (some w.heap.size))∧RI nb T b S S.length∧w'.ownsMap Tryz.prog 3 (unitElem (H:=Unit)) w.heap.size (S).length (setI (S))∧Below w.heap.size w w':=by
 have hmm:=@run_makeMap Tryz.prog;have hTL:=hT.size;have HTN:Hid (tn≤9223372036854775807):=hide (by have:=Nat.le_trans hT.le hT.top; unfold maxLen at this; omega);have hbR:=zaU.1 hb0;have hwb:(Lit.int .i64 b).wf=true:=zlF ⟨by omega,by omega⟩;have hkb:keyOf Tryz.prog 3 (.int .i64 b)=some (.int .i64 b):=keyOf_int_mk Tryz.underlying3 hwb;have hm0:=World.ownsMap_made w Tryz.prog 3 (unitElem (H:=Unit));have hb1:=zl w (.map #[] 0);go_enter Tryz.func34,Tryz.ntmps34;go_wp2_with (refine zeD _ rfl _ _ _ 78 rfl 3 79 keyI Tryz.underlying78 (unitElem (H:=Unit)) w.heap.size 0 (.map []) rfl hm0 (by unfold maxLen; omega) _ _ _ rfl rfl hkb _ [] unitElem_mk ?_; intro w2 hown2 htu)
 have hown2:w2.ownsMap Tryz.prog 3 (unitElem (H:=Unit)) w.heap.size ([b]).length (setI ([b])):=hown2;have hgr:=htu.grown;have s2:=hgr.size;rw [World.size_alloc] at s2;have hb2:Below w.heap.size w w2:=hb1.grown hgr hb1.size (fun k e=>by cases e; exact Nat.le_refl _);generalize hw3:w2.alloc (Obj.cells #[.int .i64 b] 3)=w3;have b23:=zb hw3;have k3:=zk hw3;have q3:=QOwn.made (base:=w.heap.size) k3 hb2.size;have o3:=zbq hown2 b23;have b03:=zc hb2 b23;clear hm0 hmm hkb hwb hb1 htu hgr s2 hw3 k3 hown2 hb2 b23
 go_loopg [6,8,9,10,11,12] nb (fun gk v u8 u9 u10 u11 u12 wr=>∃(p:Nat) (S:List Int),nb - p≤gk∧RI nb T b S p∧QOwn wr w.heap.size 3 v (S.drop p)∧wr.ownsMap Tryz.prog 3 (unitElem (H:=Unit)) w.heap.size (S).length (setI (S))∧Below w.heap.size w wr)
 case atStart=>exact ⟨0,[b],by omega,RI.start hb0,q3,o3,b03⟩
 case round =>
  obtain ⟨p,S,hg,hR,hq,hown,hb⟩:=hrel;clear q3 o3 b03;by_cases hp:p < S.length
  ·obtain ⟨z,hz⟩:∃z,S[p]? = some z:=⟨_,List.getElem?_eq_getElem hp⟩;have hJ0:=hR.begin hz;have hlen0:=hR.good.len;have hdr:S.drop p=z::S.drop (p+1):=by
    rw [List.drop_eq_getElem_cons hp];rw [List.getElem?_eq_getElem hp] at hz;cases hz
    rfl
   have HDR:=hide hdr;rw [hdr] at hq;obtain ⟨g,off,cap,rfl,hcl,hcm,hcc⟩:=hq.head;rw [← HDR.out] at hq;generalize (S.drop (p+1)).length=n0 at hq hcl;have i0:(0:Int) < ((n0+1:Nat):Int):=by omega
   clear hdr hR hz;(go_wp2_with fail)
   go_loopw [6,8,9,10,11,12,26] (fun v u8 u9 u10 u11 u12 i wr=>∃(j:Nat) (S:List Int),j≤tn∧i=.int .i64 j∧RJ nb T b S p z j∧QOwn wr w.heap.size 3 v (S.drop p)∧wr.ownsMap Tryz.prog 3 (unitElem (H:=Unit)) w.heap.size (S).length (setI (S))∧Below w.heap.size w wr) (fun _ _ _ _ _ _ i _=>tn - (Go.RowKit.intOf i).toNat)
   case atStart=>exact ⟨0,S,Nat.zero_le _,rfl,hJ0,hq,hown,hb⟩
   case round =>
    clear hJ0 hq hown hb hcl hcm hcc i0 HDR hp hlen0;obtain ⟨j,S,hj,rfl,hJ,hq,hown,hb⟩:=hrel;have hp:p < S.length:=(List.getElem?_eq_some_iff.1 hJ.at').1;have hdr:S.drop p=z::S.drop (p+1):=by
     have hz:=hJ.at';rw [List.drop_eq_getElem_cons hp];rw [List.getElem?_eq_getElem hp] at hz;cases hz
     rfl
    have HDR:=hide hdr;rw [hdr] at hq;obtain ⟨g,off,cap,rfl,hcl,hcm,hcc⟩:=hq.head;by_cases hlt:j < tn
    ·rw [← HDR.out] at hq;generalize (S.drop (p+1)).length=n1 at hq hcl ⊢;obtain ⟨x,lb,lo,hx,hla,a0,a1,a2,a3⟩:=zao (hT.below hb) j hlt;have hxT:=hx;have HLA:=hide hla;have i1:(0:Int)≤(j:Int):=by omega
     have i2:(j:Int) < (tn:Int):=by omega
     have htn:=HTN.out;generalize hwl:wr.alloc (Obj.cells #[.int .i64 x.a,.int .i64 x.p,.int .i64 x.b,.int .i64 x.q] 66)=wl;have brl:=zb hwl;have kL:=zk hwl;have hq:=hq.below brl;have hown:=zbq hown brl;have hb:=zc hb brl;have HSX:Hid (∀W,Below wl.heap.size wl W→(zcc W wr.heap.size 0 (.int .i64 x.a)∧zcc W wr.heap.size 1 (.int .i64 x.p)∧zcc W wr.heap.size 2 (.int .i64 x.b)∧zcc W wr.heap.size 3 (.int .i64 x.q))∧zcc W g off (.int .i64 z)):=hide (fun W hW=>⟨zE (za kL hW),(hW.cell (zp ((brl.cell (zp hcc)).trans hcc))).trans ((brl.cell (zp hcc)).trans hcc)⟩);have vv:Below wl.heap.size wl wl.drew:=zq (Below.refl _ _);clear hla hdr hcl hcm;rw [HLA.out];(go_upto_region 8 with fail);clear a0 a1 a2 a3 hwl kL hcc brl;cases hA:across x z with
     | none =>
      have cA:∀W:World,Calls Tryz.prog 62 #[.agg #[.int .i64 x.a,.int .i64 x.p,.int .i64 x.b,.int .i64 x.q],.int .i64 z] W fun e w2=>e=.returned (ze4 (none))∧Below W.heap.size W w2:=fun W=>by have:=zga x z W; rw [hA] at this; exact this
      refine wp_region_held_drew (S:=(fun W=>(zcc W wr.heap.size 0 (.int .i64 x.a)∧zcc W wr.heap.size 1 (.int .i64 x.p)∧zcc W wr.heap.size 2 (.int .i64 x.b)∧zcc W wr.heap.size 3 (.int .i64 x.q))∧zcc W g off (.int .i64 z))) (by kernel_rfl) ((by first | exact HS2.out | exact HSX.out _ vv)) (fun hHeld => ?_);refine kK 0 ?_;refine kK 1 ?_;refine kK 2 ?_;refine kK 3 ?_;refine kR 4 fun K hK => ?_
      go_simp;clear hHeld;refine (cA _).mono ?_;rintro e w2 ⟨rfl,hb2⟩;have hb2:=zc vv hb2;have HS2:=hide (HSX.out w2 hb2);dsimp only [ze4];(go_wp2_with fail);refine kO hK ((by first | exact HS2.out | exact HSX.out _ vv)) fun hHeld => ?_
      clear hK K;refine kK 5 ?_;refine kK 6 ?_;refine kK 7 ?_;refine kK 8 ?_;refine kK 9 ?_;refine wpAnyH_done (by kernel_rfl) ?_ _;have hq:=hq.below hb2;have hown:=zbq hown hb2;have hb:=zc hb hb2;clear hHeld vv hb2 HS2;generalize w2=wd at *;have hwf:(Lit.int .i64 0).wf=true:=by decide
      have hkey:keyOf Tryz.prog 3 (.int .i64 0)=some (.int .i64 0):=keyOf_int_mk Tryz.underlying3 hwf;obtain ⟨q,hhas⟩:∃q,Maps.has (setI S) (.int .i64 0)=q:=⟨_,rfl⟩;have HST:Hid (∀y,across x z=some y→y∈S):=hide (fun y hy=>by rw [hA] at hy; cases hy);clear hA;go_wp2_with (at_lookup; refine wpList_lookup_own_unit _ rfl _ _ 78 rfl 3 79 keyI Tryz.underlying78 (zeroE _) w.heap.size S.length (setI S) rfl hown _ _ rfl hkey ?_; rw [hhas])
      have hq:=hq.below (zl _ (.cells #[] 79));have hown:=hown.alloc (.cells #[] 79);have hb:=zc hb (zl _ (.cells #[] 79));have HRJ:=hide (hJ.stay hxT (HST.out));have HQ:=hide hq;have HOWN:=hide hown;have HB:=hide hb;clear hJ hq hown hb;go_wp2
      go_roundw
      case rel=>exact ⟨j+1,S,by omega,by go_num,HRJ.out,HQ.out,HOWN.out,HB.out⟩
      case measure=>simp [Go.RowKit.intOf]; omega
     | some y =>
      have cA:∀W:World,Calls Tryz.prog 62 #[.agg #[.int .i64 x.a,.int .i64 x.p,.int .i64 x.b,.int .i64 x.q],.int .i64 z] W fun e w2=>e=.returned (ze4 (some y))∧Below W.heap.size W w2:=fun W=>by have:=zga x z W; rw [hA] at this; exact this
      refine wp_region_held_drew (S:=(fun W=>(zcc W wr.heap.size 0 (.int .i64 x.a)∧zcc W wr.heap.size 1 (.int .i64 x.p)∧zcc W wr.heap.size 2 (.int .i64 x.b)∧zcc W wr.heap.size 3 (.int .i64 x.q))∧zcc W g off (.int .i64 z))) (by kernel_rfl) ((by first | exact HS2.out | exact HSX.out _ vv)) (fun hHeld => ?_);refine kK 0 ?_;refine kK 1 ?_;refine kK 2 ?_;refine kK 3 ?_;refine kR 4 fun K hK => ?_
      go_simp;clear hHeld;refine (cA _).mono ?_;rintro e w2 ⟨rfl,hb2⟩;have hb2:=zc vv hb2;have HS2:=hide (HSX.out w2 hb2);dsimp only [ze4];(go_wp2_with fail);refine kO hK ((by first | exact HS2.out | exact HSX.out _ vv)) fun hHeld => ?_
      clear hK K;refine kK 5 ?_;refine kK 6 ?_;refine kK 7 ?_;refine kK 8 ?_;refine kK 9 ?_;refine wpAnyH_done (by kernel_rfl) ?_ _;have hq:=hq.below hb2;have hown:=zbq hown hb2;have hb:=zc hb hb2;clear hHeld vv hb2 HS2;generalize w2=wd at *;have hyB:=hT2 x (List.mem_of_getElem? hxT);have hyR:0≤y∧y < (nb:Int):=by
       rcases ze5 hA with ⟨-,rfl⟩ | ⟨-,rfl⟩
       ·exact zaU.1 hyB.2
       ·exact zaU.1 hyB.1
      have hwf:(Lit.int .i64 y).wf=true:=zlF ⟨by omega,by omega⟩;have hkey:keyOf Tryz.prog 3 (.int .i64 y)=some (.int .i64 y):=keyOf_int_mk Tryz.underlying3 hwf;cases hC:S.contains y
      ·have hhas:Maps.has (setI S) (.int .i64 y)=false:=by rw [zd4,hC]
       have hnS:y∉S:=fun h=>by rw [← List.contains_iff_mem,hC] at h; cases h
       have HJ2:=hide (hJ.more hT2 hxT hA hnS);have hlen:=hJ.ri.good.len;have hpl:p < S.length:=(List.getElem?_eq_some_iff.1 hJ.at').1;have HDR:Hid (S.drop p++[y]=(S++[y]).drop p):=hide (by rw [List.drop_append_of_le_length (by omega)]);have HSS:Hid ((S++[y]).length=S.length+1):=hide (by rw [List.length_append]; rfl);have HSI:Hid ((setI S).put (.int .i64 y) (.agg [])=setI (S++[y])):=hide (zlo S y).symm;have hqv:=zle hq hown;have hqB:=hq.lt;have HB:=hide hb;have hba:=zl wd (.cells #[] 79);have hsz0:=hb.size;clear hA hC hnS hb;have hqq:∀w6:World,(wd.alloc (Obj.cells #[] 79)).grownBy w6 (some w.heap.size)→QOwn (w6.alloc (.cells #[.int .i64 y] 3)) w.heap.size 3 (.slice (some ⟨g,off,none⟩) (n1+1) cap) (S.drop p):=fun w6 hgr6=>((hq.below hba).kept hgr6 (fun k e=>hqv k e)).below (zl _ _)
       have hql:(S.drop p).length+1≤16777216:=by rw [List.length_drop]; omega
       have hqb:∀w6:World,(wd.alloc (Obj.cells #[] 79)).heap.size≤w6.heap.size→w.heap.size≤(w6.alloc (.cells #[.int .i64 y] 3)).heap.size:=fun w6 hs=>by rw [World.size_alloc] at hs ⊢; omega
       have hqc:∀w6:World,(w6.alloc (.cells #[.int .i64 y] 3)).cell? ⟨w6.heap.size,0,none⟩=some (.int .i64 y):=fun w6=>by have:=zy w6 (Obj.cells #[.int .i64 y] 3); unfold World.cell?; rw [this]; rfl
       go_wp2_with (first
        | (at_lookup; refine wpList_lookup_own_unit _ rfl _ _ 78 rfl 3 79 keyI Tryz.underlying78 (zeroE _) w.heap.size S.length (setI S) rfl hown _ _ rfl hkey ?_; rw [hhas])
        | (at_mapUpdate; refine wpList_mapUpdate_own _ rfl _ _ _ 78 rfl 3 79 keyI Tryz.underlying78 (unitElem (H:=Unit)) w.heap.size S.length (setI S) rfl (hown.alloc _) (by unfold maxLen; omega) _ _ _ rfl rfl hkey _ [] unitElem_mk ?_; intro w6 hown6 hgr6; have s6:=hgr6.size; rw [World.size_alloc] at s6)
        | (at_builtin; refine zfT _ rfl _ _ 35 3 rfl w.heap.size Tryz.underlying35 Tryz.infoI64 rfl _ (S.drop p) rfl (hqq w6 hgr6) w6.heap.size 0 1 y rfl (hqc w6) hql (hqb w6 hgr6.size) ?_; intro v' w8 hq8 hgr8))
       rw [HDR.out] at hq8;have HQ:=hide hq8;have HM:Hid (w8.ownsMap Tryz.prog 3 (unitElem (H:=Unit)) w.heap.size (S++[y]).length (setI (S++[y]))):=hide (by
        rw [HSS.out,← HSI.out];exact (hown6.alloc _).kept hgr8 (fun e=>hqv _ e.symm rfl))
       have HBB:Hid (Below w.heap.size w w8):=hide (by
        have t1:=zc HB.out hba;have t2:=t1.grown hgr6 t1.size (fun k e=>by cases e; exact Nat.le_refl _);have t3:=t2.alloc t2.size (.cells #[.int .i64 y] 3);exact t3.grown hgr8 t3.size (fun k e=>(hqB k e).1))
       clear hJ hq hown hq8 hown6 hgr6 hgr8 hba hqv hqB;go_wp2
       go_roundw
       case rel=>exact ⟨j+1,S++[y],by omega,by go_num,HJ2.out,HQ.out,HM.out,HBB.out⟩
       case measure=>simp [Go.RowKit.intOf]; omega
      ·have hhas:Maps.has (setI S) (.int .i64 y)=true:=by rw [zd4,hC]
       have HST:Hid (∀u,across x z=some u→u∈S):=hide (fun u hu=>by rw [hA] at hu; cases hu; exact List.contains_iff_mem.1 hC);clear hA hC;go_wp2_with (at_lookup; refine wpList_lookup_own_unit _ rfl _ _ 78 rfl 3 79 keyI Tryz.underlying78 (zeroE _) w.heap.size S.length (setI S) rfl hown _ _ rfl hkey ?_; rw [hhas])
       have hq:=hq.below (zl _ (.cells #[] 79));have hown:=hown.alloc (.cells #[] 79);have hb:=zc hb (zl _ (.cells #[] 79));have HRJ:=hide (hJ.stay hxT (HST.out));have HQ:=hide hq;have HOWN:=hide hown;have HB:=hide hb;clear hJ hq hown hb;go_wp2
       go_roundw
       case rel=>exact ⟨j+1,S,by omega,by go_num,HRJ.out,HQ.out,HOWN.out,HB.out⟩
       case measure=>simp [Go.RowKit.intOf]; omega
    ·have hjn:j=tn:=by omega
     have hN:RI nb T b S (p+1):=RJ.next (by rw [hTL]; rw [← hjn]; exact hJ);have hgg:nb - (p+1) < gk:=by have:=hN.le; have:=hN.good.len; omega
     have hq2:=hq.rest;generalize hn0:(S.drop (p+1)).length=n0 at hq2 hcl;have i1:(1:Int)≤((n0+1:Nat):Int):=by omega
     have i2:((n0+1:Nat):Int)≤(cap:Int):=by omega
     clear hJ hq hdr hlt HDR;by_cases hc1:cap=1
     ·subst hc1;rw [if_pos rfl] at hq2;obtain rfl:n0=0:=by omega
      go_wp2
      go_roundg (nb - (p+1))
      case measure=>exact hgg
      case rel=>exact ⟨p+1,S,Nat.le_refl _,hN,hq2,hown,hb⟩
     ·rw [if_neg hc1] at hq2;go_wp2
      go_roundg (nb - (p+1))
      case measure=>exact hgg
      case rel=>exact ⟨p+1,S,Nat.le_refl _,hN,hq2,hown,hb⟩
  ·have hps:p=S.length:=by have:=hR.le; omega
   subst hps;obtain ⟨g,off,cap,cur,rfl,-⟩:=hq;rw [List.drop_length];have HR:=hide hR;have HM:=hide hown;have HB:=hide hb;clear hR hown hb;go_wp2;go_ret;exact ⟨S,rfl,HR.out,HM.out,HB.out⟩

end

end Go.Proofs.YtkaefmfopejbaaaGreat
