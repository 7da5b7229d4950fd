/-
  Packed: StepStepsS StepDeed StepDelS StepLose StepSayI.
-/
import Derived.Test.YtpaneiaflfegoaaGreatPTKW
import Derived.Test.YtpaneiaflfegoaaGreatPTK01
import Derived.Test.YtpaneiaflfegoaaGreatPTK07
import Derived.Test.YtpaneiaflfegoaaGreatPTK27
import Derived.Test.YtpaneiaflfegoaaGreatPTK31
import Derived.Test.YtpaneiaflfegoaaGreatPTK32
import Derived.Test.YtpaneiaflfegoaaGreatPTK33
import Derived.Test.YtpaneiaflfegoaaGreatPTStepCopy
import Derived.Test.YtpaneiaflfegoaaGreatPTStepStepS
import Derived.Laws.EntriesVeiled
import Derived.Laws.OwnMore
namespace Go.Proofs.YtpaneiaflfegoaaGreat
set_option maxRecDepth 100000
set_option maxHeartbeats 16000000
open Go.RowKit

theorem zeS (N:NV) (ea:Option Addr) (en ec:Nat) (l:List EV) (w:World) (h:zae w N) (hz:N.Sized) (hE:GRow evF w ea en ec l) (hR:∀B∈N.brs,B.Rg) :
  Calls Tryz.prog 14 #[.agg #[.slice N.ba N.bn N.bc,.slice N.la N.ln N.lc,.slice N.sa N.sn N.sc],.slice ea en ec] w fun e w'=>∃M:NV,e=.returned (.agg #[.slice M.ba M.bn M.bc,.slice M.la M.ln M.lc,.slice M.sa M.sn M.sc])∧NOwn w' w.heap.size M∧zb6 l (min en 60) N.t M.t∧Below w.heap.size w w':=by
 generalize hw1:w.alloc (Obj.cells #[.slice N.ba N.bn N.bc,.slice N.la N.ln N.lc,.slice N.sa N.sn N.sc] 34)=w1;generalize hw2:w1.alloc (Obj.cells #[.slice none 0 0,.slice none 0 0,.slice none 0 0] 34)=w2;have b01:=zb hw1;have b12:=zb hw2;have b02:=zc b01 b12;have kP:=za (zk hw1) b12;have kJ:=zk hw2;have HZR:Hid (w1.heap.size=w.heap.size+1):=hide (by rw [← hw1]; simp);have HZ:Hid (w2.heap.size=w.heap.size+2):=hide (by rw [← hw2,← hw1]; simp);obtain ⟨x0,x1,x2⟩:=zd kP;go_enter Tryz.func14,Tryz.ntmps14;go_wp2_with fail
 refine (zcQ N _ (h.below b02) (by have:=hz.n; omega) (by have:=hz.l; omega) (by have:=hz.s; omega) (zdn hz.m)).mono ?_;rintro e w3 ⟨M,rfl,oM,sM,hb3⟩;generalize hw4:w3.alloc (Obj.cells #[.slice M.ba M.bn M.bc,.slice M.la M.ln M.lc,.slice M.sa M.sn M.sc] 34)=w4;have b34:=zb hw4;have kY:=zk hw4;have oM:=oM.below b34;have b24:=zc hb3 b34;have kJ:=za kJ b24;have b04:=zc b02 b24;have HYR:Hid (w.heap.size+2≤w3.heap.size):=hide (by have:=hb3.size; have:=HZ.out; omega);have HB2:Hid (w.heap.size≤w2.heap.size):=hide (by have:=HZ.out; omega);go_wp2_with fail
 generalize hY:w3.heap.size=Y at *;generalize hRR:w1.heap.size=R at *;have HRG:=hide hR;clear hR x0 x1 x2 hb3 b34 b24 b02 b12 b01 hw1 hw2 hw4 kP 
 go_loopw [6] (fun i wr=>∃(j:Nat) (M:NV),j≤60∧(j=0∨j≤en)∧i=.int .i64 j∧wr.heap[Y]?=some (.cells #[.slice M.ba M.bn M.bc,.slice M.la M.ln M.lc,.slice M.sa M.sn M.sc] 34)∧wr.heap[R]?=some (.cells #[.slice none 0 0,.slice none 0 0,.slice none 0 0] 34)∧NOwn wr w.heap.size M∧Below w.heap.size w wr∧zb6 l j N.t M.t) (fun i _=>60 - (intOf i).toNat)
 case atStart=>exact ⟨0,M,by omega,.inl rfl,rfl,kY,kJ,oM.lt HB2.out,b04,zex sM⟩
 case round =>
  clear kY kJ oM b04 sM;obtain ⟨j,M2,hj,hjk,rfl,kY,kJ,oM,hB,hM⟩:=hrel;have HM:=hide hM;have hz2:=ziG oM.row h (zcc j hM) hz;clear hM;obtain ⟨x0,x1,x2⟩:=zd kY;by_cases hlt:j < en∧j < 60
  ·obtain ⟨l1,l2⟩:=hlt;have l1:(j:Int) < (en:Int):=by omega
   have l2:(j:Int) < 60:=by omega
   have l4:(0:Int)≤(j:Int):=by omega
   obtain ⟨ev,eb,eo,hex,hea,-⟩:=zbY (hE.below hB) j (by omega);have HEX:=hide hex;have HEA:=hide hea;have HEV:Hid (∀W,Below w.heap.size w W→W.cell? ⟨eb,eo+j*2,none⟩=some (.int .i64 ev.kd)∧W.cell? ⟨eb,eo+j*2+1,none⟩=some (.int .i64 ev.i)):=hide (fun W hW=>by
    obtain ⟨ev',eb',eo',hex',hea',c⟩:=zbY (hE.below hW) j (by omega);rw [hex] at hex';cases hex';rw [hea] at hea';cases hea';exact c)
   clear hex hea;have vv:Below wr.heap.size wr wr.drew:=zp (Below.refl _ _);clear x0 x1 x2;rw [HEA.out];(go_wp2_with fail);refine wp_region_held_drew (S:=(fun W=>W.cell? ⟨eb,eo+j*2,none⟩=some (.int .i64 ev.kd)∧W.cell? ⟨eb,eo+j*2+1,none⟩=some (.int .i64 ev.i))) (by kernel_rfl) (HEV.out _ (zc hB vv)) (fun hHeld => ?_);refine kK 1 ⟨some 21,.move (.tmp 1),46,"l14_step.go:90",#[],none⟩ ?_;refine kK 2 ⟨some 22,.move (.tmp 6),3,"l14_step.go:90",#[],none⟩ ?_;refine kK 3 ⟨some 23,.indexAddr 46 (.tmp 21) (.tmp 22),0,"l14_step.go:90",#[⟨1,.data⟩,⟨2,.data⟩],none⟩ ?_;refine kK 4 ⟨some 24,.load 38 (.tmp 23),38,"l14_step.go:90",#[⟨3,.data⟩],none⟩ ?_;refine kR 0 ⟨some 20,.load 34 (.tmp 5),34,"l14_step.go:90",#[],none⟩ (fun K hK => ?_);obtain ⟨x0,x1,x2⟩:=zd (za kY vv);go_simp;refine hK.out _ _ (HEV.out _ (zc hB vv)) (fun hHeld => ?_);clear hK K;(try simp only [Act.put,lA,lB,lC]);refine kR 5 ⟨some 25,.call ⟨.value (.func 6),#[.tmp 20,.tmp 24],#[34,38]⟩,35,"l14_step.go:90",#[⟨0,.data⟩,⟨4,.data⟩],none⟩ (fun K hK => ?_);go_simp;refine (zf0 M2 ev.kd ev.i _ (oM.row.below vv) hz2.n hz2.l hz2.s hz2.m (fun B hB=>(zgV j HM.out HRG.out B hB).1)).mono ?_;rintro e w8 ⟨M3,q3,rfl,o3,r3,b8⟩;have o3:=o3.lt (base':=w.heap.size) (Nat.le_trans hB.size vv.size);have vv:=zc vv b8;have HR3:Hid (zb6 l (j+1) N.t M3.t):=hide ⟨_,HM.out,ev,q3,HEX.out,r3⟩;clear b8;(go_wp2_with fail);refine hK.out _ _ (HEV.out _ (zc hB vv)) (fun hHeld => ?_);clear hK K;(try simp only [Act.put,lA,lB,lC]);refine kK 6 ⟨some 19,.move (.tmp 25),35,"l14_step.go:90",#[⟨5,.data⟩],none⟩ ?_;refine kK 7 ⟨some 26,.extract (.tmp 19) 0,34,"l14_step.go:90",#[⟨6,.data⟩],none⟩ ?_;refine kK 8 ⟨some 27,.extract (.tmp 19) 1,4,"l14_step.go:90",#[⟨6,.data⟩,{ on:=9,ground:=Ground.gcOnly Departure.lateStores }],none⟩ ?_;refine kR 9 ⟨none,.store 34 (.tmp 5) (.tmp 26),0,"l14_step.go:90",#[⟨7,.data⟩,⟨5,.chain⟩,⟨0,.phase⟩,⟨1,.phase⟩,⟨2,.phase⟩,⟨3,.phase⟩,⟨4,.phase⟩,⟨5,.phase⟩,⟨6,.phase⟩,⟨7,.phase⟩,{ on:=8,ground:=Ground.textOnly Departure.lateStores }],none⟩ (fun K hK => ?_);have kYv:=za kY vv;obtain ⟨x0,x1,x2⟩:=zd kYv;have f0:=zf kYv 0;have f1:=zf kYv 1;have f2:=zf kYv 2;have o4:=o3.out kYv;have b4:=zQ (zc hB vv) (R:=Y) (by have:=HYR.out; omega) (.slice M3.ba M3.bn M3.bc) (.slice M3.la M3.ln M3.lc) (.slice M3.sa M3.sn M3.sc);have kJ4:=ze (za kJ vv) (zz (zz (zg (rb:=Y) 0 (.slice M3.ba M3.bn M3.bc)) (zg 1 (.slice M3.la M3.ln M3.lc))) (zg 2 (.slice M3.sa M3.sn M3.sc))) (by intro i e; cases e; have:=HYR.out; have:=HZR.out; omega);have kY4:=zay (K:=fun W=>W.heap[Y]?=some (.cells #[.slice M3.ba M3.bn M3.bc,.slice M3.la M3.ln M3.lc,.slice M3.sa M3.sn M3.sc] 34)) kYv (.slice M3.ba M3.bn M3.bc) (.slice M3.la M3.ln M3.lc) (.slice M3.sa M3.sn M3.sc) (fun wq kQ _=>kQ);go_simp;refine hK.out _ _ (HEV.out _ b4) (fun hHeld => ?_);clear hK K;(try simp only [Act.put,lA,lB,lC]);refine wpAnyH_done (by kernel_rfl) ?_ _;have HO:=hide o4;have HB:=hide b4;have HKJ:=hide kJ4;have HKY:=hide kY4;clear hHeld o3 o4 b4 kJ4 kY4 hB kJ r3 kYv x0 x1 x2 f0 f1 f2;go_wp2
   go_roundw
   case rel=>exact ⟨j+1,M3,by omega,.inr (by omega),by go_num,HKY.out,HKJ.out,HO.out,HB.out,HR3.out⟩
   case measure=>simp [intOf]; omega
  ·have hcj:min en 60=j:=by omega
   have HC:Hid (zb6 l (min en 60) N.t M2.t):=hide (by rw [hcj]; exact HM.out);obtain ⟨r0,r1,r2⟩:=zd kJ;have f0:=zf kJ 0;have f1:=zf kJ 1;have f2:=zf kJ 2;have ne1:¬R=Y:=by have:=HYR.out; have:=HZR.out; omega
   have ne2:¬Y=R:=by have:=HYR.out; have:=HZR.out; omega
   have HO:=hide (oM.out kJ);have HB:=hide (zQ hB (R:=R) (by have:=HZR.out; omega) (.slice M2.ba M2.bn M2.bc) (.slice M2.la M2.ln M2.lc) (.slice M2.sa M2.sn M2.sc));have ht:¬(j:Int) < (en:Int)∨((j:Int) < (en:Int)∧¬(j:Int) < 60):=by omega
   skip
   clear oM kY kJ hB hz2 hcj hlt;rcases ht with ht | ⟨hu,ht⟩
   ·go_wp2;exact bodyPost_ret (v:=.agg #[.slice M2.ba M2.bn M2.bc,.slice M2.la M2.ln M2.lc,.slice M2.sa M2.sn M2.sc]) (by simp [results,Tryz.results14,go_sem, *]) rfl ⟨M2,rfl,HO.out,HC.out,HB.out⟩
   ·go_wp2;exact bodyPost_ret (v:=.agg #[.slice M2.ba M2.bn M2.bc,.slice M2.la M2.ln M2.lc,.slice M2.sa M2.sn M2.sc]) (by simp [results,Tryz.results14,go_sem, *]) rfl ⟨M2,rfl,HO.out,HC.out,HB.out⟩

theorem zcq (M:NV) (base X:Nat) (w:World) (h:NiSt w base X M) :
  Calls Tryz.prog 70 #[.pointer (some ⟨X,0,none⟩)] w fun e w'=>e=.returned (.int .i64 (M.bn:Int))∧w'=w:=by
 obtain ⟨x0,x1,x2⟩:=zd h.box;go_enter Tryz.func70,Tryz.ntmps70;go_wp2;go_ret;exact ⟨rfl,rfl⟩

theorem zdL (M:NV) (base X:Nat) (w:World) (h:NiSt w base X M) :
  Calls Tryz.prog 72 #[.pointer (some ⟨X,0,none⟩)] w fun e w'=>e=.returned (.int .i64 (M.sn:Int))∧w'=w:=by
 obtain ⟨x0,x1,x2⟩:=zd h.box;go_enter Tryz.func72,Tryz.ntmps72;go_wp2;go_ret;exact ⟨rfl,rfl⟩

theorem zdg (M:NV) (base X:Nat) (w:World) (h:NiSt w base X M) :
  Calls Tryz.prog 75 #[.pointer (some ⟨X,0,none⟩)] w fun e w'=>e=.returned (.int .i64 (M.ln:Int))∧w'=w:=by
 obtain ⟨x0,x1,x2⟩:=zd h.box;go_enter Tryz.func75,Tryz.ntmps75;go_wp2;go_ret;exact ⟨rfl,rfl⟩

theorem zkL (w:World) :
  Calls Tryz.prog 35 #[.int .i64 1] w fun e w'=>e=.returned (.agg #[.func (.func 70) #[] #[],.func (.func 71) #[] #[]])∧Below w.heap.size w w':=by
 go_enter Tryz.func35,Tryz.ntmps35;go_wp2;exact bodyPost_ret (v:=.agg #[.func (.func 70) #[] #[],.func (.func 71) #[] #[]]) (by simp [results,Tryz.results35,go_sem]) rfl ⟨rfl,zL _ _ _⟩

theorem zkM (w:World) :
  Calls Tryz.prog 35 #[.int .i64 2] w fun e w'=>e=.returned (.agg #[.func (.func 72) #[] #[],.func (.func 73) #[] #[]])∧Below w.heap.size w w':=by
 go_enter Tryz.func35,Tryz.ntmps35;go_wp2;exact bodyPost_ret (v:=.agg #[.func (.func 72) #[] #[],.func (.func 73) #[] #[]]) (by simp [results,Tryz.results35,go_sem]) rfl ⟨rfl,zL _ _ _⟩

theorem zkN (w:World) :
  Calls Tryz.prog 35 #[.int .i64 3] w fun e w'=>e=.returned (.agg #[.func (.func 72) #[] #[],.func (.func 74) #[] #[]])∧Below w.heap.size w w':=by
 go_enter Tryz.func35,Tryz.ntmps35;go_wp2;exact bodyPost_ret (v:=.agg #[.func (.func 72) #[] #[],.func (.func 74) #[] #[]]) (by simp [results,Tryz.results35,go_sem]) rfl ⟨rfl,zL _ _ _⟩

theorem zkO (w:World) :
  Calls Tryz.prog 35 #[.int .i64 4] w fun e w'=>e=.returned (.agg #[.func (.func 75) #[] #[],.func (.func 76) #[] #[]])∧Below w.heap.size w w':=by
 go_enter Tryz.func35,Tryz.ntmps35;go_wp2;exact bodyPost_ret (v:=.agg #[.func (.func 75) #[] #[],.func (.func 76) #[] #[]]) (by simp [results,Tryz.results35,go_sem]) rfl ⟨rfl,zL _ _ _⟩

theorem zkP (w:World) :
  Calls Tryz.prog 35 #[.int .i64 5] w fun e w'=>e=.returned (.agg #[.func (.func 75) #[] #[],.func (.func 77) #[] #[]])∧Below w.heap.size w w':=by
 go_enter Tryz.func35,Tryz.ntmps35;go_wp2;exact bodyPost_ret (v:=.agg #[.func (.func 75) #[] #[],.func (.func 77) #[] #[]]) (by simp [results,Tryz.results35,go_sem]) rfl ⟨rfl,zL _ _ _⟩

theorem zkQ (w:World) :
  Calls Tryz.prog 35 #[.int .i64 6] w fun e w'=>e=.returned (.agg #[.func (.func 70) #[] #[],.func (.func 78) #[] #[]])∧Below w.heap.size w w':=by
 go_enter Tryz.func35,Tryz.ntmps35;go_wp2;exact bodyPost_ret (v:=.agg #[.func (.func 70) #[] #[],.func (.func 78) #[] #[]]) (by simp [results,Tryz.results35,go_sem]) rfl ⟨rfl,zL _ _ _⟩

theorem zdT {α:Type} {F:Flat α} {P:Program} {ops:Array Oper} {o:Oper} {a:Act} {w:World} {K:Act→World→Prop} {Q:Exit→Act→World→Prop} {E:Prop} (hgd:o.guard=none)
  (s x:Operand) (t T:TypeId) (ho:o.op=Op.call { callee:=Callee.builtin Builtin.append,args:=#[s,x],argTypes:=#[t,t] }) (base:Nat) {Z:Value} {by8:Nat}
  (ht:P.underlying t=some (TypeDesc.slice T)) (hinfo:(P.info? T).map (fun i=>(i.zero,i.size,i.bytes))=some (some Z,F.k,by8))
  (g n cap:Nat) (xs:List α) (hs:a.eval s=.slice (some ⟨g,0,none⟩) n cap) (hown:w.ownsRow base T F.k (.slice (some ⟨g,0,none⟩) n cap) n (F.all xs)) (ao:Option Addr) (m c:Nat) (zs:List α)
  (hx:a.eval x=.slice ao m c) (hrow:GRow F w ao m c zs) (hroom:n+m≤cap)
  (h:∀w',w'.ownsRow base T F.k (.slice (some ⟨g,0,none⟩) (n+m) cap) (n+m) (F.all (xs++zs))→w.grownBy w' (some g)→K (a.put o.dst (.slice (some ⟨g,0,none⟩) (n+m) cap)) w') :
  if Region.wanted o (yielded ops a.tmps)=true then Oper.wp P o a w K Q else E:=by
 have hw:Region.wanted o (yielded ops a.tmps)=true:=by simp [Region.wanted,hgd]
 rw [if_pos hw];obtain ⟨i0,hi,hz0,hz1,hz2⟩:=zaK hinfo;rcases ao with _ | ad
 ·have hc0:=hrow.nil rfl;have hm0:m=0:=by have:=hrow.le; omega
  subst hc0 hm0;have hz:zs=[]:=List.eq_nil_of_length_eq_zero hrow.size;subst hz;have hrun:=run_append_owned_none (P:=P) w base t o.type T i0 F.k ht hi (.slice (some ⟨g,0,none⟩) n cap) n (F.all xs) hown;have hk:K (a.put o.dst (.slice (some ⟨g,0,none⟩) n cap)) w:=by simpa using h w (by simpa using hown) (World.grownBy.refl _ _)
  unfold Oper.wp
  simp [execOp,ho,resolve,invoke,builtin,hs,hx,hrun,Result.andThen]
  exact hk
 ·have hnews:∀(j:Nat) (u:Value),(F.all zs)[j]?=some u→w.cell? (ad.add j)=some u:=by
   intro j u hu;rcases hrow.cell with h0 | ⟨b,off,e,_⟩
   ·have hl:=(List.getElem?_eq_some_iff.1 hu).1;rw [F.all_length,hrow.size,h0,Nat.zero_mul] at hl;omega
   ·cases e;exact hrow.news j u hu
  obtain ⟨w',hrun,r1,r2⟩:=run_append_fits (P:=P) w base t o.type T i0 F.k ht hi hz1 g n cap (F.all xs) hown ad m c (F.all zs) (by rw [F.all_length,hrow.size]) hnews (F.all_oneCell zs) hroom;have hk:=h w' (by rw [F.all_append]; exact r1) r2;unfold Oper.wp
  simp [execOp,ho,resolve,invoke,builtin,hs,hx,hrun,Result.andThen]
  exact hk

theorem zeQ {w:World} {base g i cap m:Nat} {L:List SY} (h:w.ownsRow base 105 7 (.slice (some ⟨g,0,none⟩) i cap) i (sayF.all L)) (hm:i+(m+1)≤cap) (ty:TypeId) :
  ∃w',(∀c,(Builtin.clear_ #[32] ty #[.slice (some ⟨g,i*7,none⟩) (m+1) c]).run Tryz.prog w=.ok (.tuple #[]) w')∧w'.ownsRow base 105 7 (.slice (some ⟨g,0,none⟩) i cap) i (sayF.all L)∧w.grownBy w' (some g):=by
 have hl:L.length=i:=(zB (F:=sayF) h).size;obtain ⟨hlen,⟨hv,h0⟩ | ⟨g',cap',cur,hv,hg,hh,h1,h2,h3,h4⟩⟩:=h
 ·cases hv
 ·cases hv;have hz:∀w,(zeroValue 105).run Tryz.prog w=.ok (.agg #[.int .i64 0,.bool false,.int .i64 0,.int .i64 0,.int .i64 0,.int .i64 0,.int .i64 0]) w:=fun w=>by kernel_rfl
  let Z:=(Builtin.zeroCells #[Value.int .i64 0,.bool false,.int .i64 0,.int .i64 0,.int .i64 0,.int .i64 0,.int .i64 0] (m+1)).toList
  have hZl:Z.length=(m+1)*7:=by simp [Z,size_zeroCells]
  have hZ1:∀v∈Z,v.oneCell'=true:=by
   intro v hv;simp only [Z,Builtin.zeroCells,Array.toList_map,List.mem_map] at hv;obtain ⟨j,-,rfl⟩:=hv;rcases (show j % 7=0∨j % 7=1∨j % 7=2∨j % 7=3∨j % 7=4∨j % 7=5∨j % 7=6 by omega) with e | e | e | e | e | e | e <;> simp [e] <;> rfl
  have hfit:i*7+0+Z.length≤cur.size:=by rw [hZl,h3]; omega
  have hst:=run_storeCells_at (P:=Tryz.prog) g (i*7) 105 Z 0 cur w hh hfit hZ1;refine ⟨w.setRow g (cur.toList.take (i*7+0)++Z++cur.toList.drop (i*7+0+Z.length)).toArray,fun c => ?_, ?_, ?_⟩
  ·have hst':=hst;simp only [Z] at hst'
   simp [Builtin.clear_,run_underlying Tryz.underlying32,hz,Value.cells,hst',Z]
  ·refine ⟨hlen,.inr ⟨g,cap,_,rfl,hg,setRow_heap w g cur _ 105 _ hh,h1,h2, ?_, ?_⟩⟩
   ·simp
    rw [hZl]
    have:cur.toList.length=cap*7:=by simpa using h3
    simp at this ⊢
    omega
   ·have hcs:cur.toList.length=cap*7:=by simpa using h3
    have e1:(cur.toList.take (i*7+0)).length=i*7:=by rw [List.length_take]; omega
    rw [List.append_assoc,List.take_append_of_le_length (by omega),List.take_of_length_le (by omega),← h4,Nat.add_zero]
  ·refine ⟨rfl,rfl,rfl, ?_, ?_⟩
   ·simp [World.setRow]
   ·intro k hk hkg;rw [setRow_other _ _ _ _ (fun e=>hkg (by rw [e]))]

theorem zi3 {w:World} {base k:Nat} {e:TypeId} {a:Option Addr} {n cap:Nat} {xs:List Value} (h:w.ownsRow base e k (.slice a n cap) n xs) {i:Nat} (hi:i≤n):w.ownsRow base e k (.slice a i cap) i (xs.take (i*k)):=by
 have hik:i*k≤n*k:=Nat.mul_le_mul_right _ hi;obtain ⟨hl,⟨hv,h0⟩ | ⟨g,cap',cur,hv,hg,hh,h1,h2,h3,h4⟩⟩:=h
 ·cases hv
  have:i=0:=by omega
  subst this;exact ⟨by simp,.inl ⟨rfl,rfl⟩⟩
 ·cases hv;refine ⟨by rw [List.length_take,hl]; omega,.inr ⟨g,cap,cur,rfl,hg,hh,by omega,h2,h3, ?_⟩⟩;rw [← h4,List.take_take,Nat.min_eq_left hik]

theorem zkh (l:List SY) (i:Nat):(sayF.all l).take (i*7)=sayF.all (l.take i):=by
 induction l generalizing i with
 | nil=>simp [Flat.all]
 | cons x l ih =>
  cases i with
  | zero=>simp [Flat.all]
  | succ i =>
   rw [sayF.all_cons,List.take_succ_cons,sayF.all_cons,← ih i];have h3:(sayF.cs x).length=7:=rfl;rw [List.take_append,h3,show (i+1)*7 - 7=i*7 by omega,List.take_of_length_le (by rw [h3]; omega)]

theorem zga (base g n cap k:Nat) (l:List SY) (w:World) (how:w.ownsRow base 105 7 (.slice (some ⟨g,0,none⟩) n cap) n (sayF.all l)) (hk:k < n) (hn:n≤16777216) :
  Calls Tryz.prog 127 #[.slice (some ⟨g,0,none⟩) n cap,.int .i64 (k:Int),.int .i64 ((k:Int)+1)] w fun e w'=>e=.returned (.slice (some ⟨g,0,none⟩) (n - 1) cap)∧w'.ownsRow base 105 7 (.slice (some ⟨g,0,none⟩) (n - 1) cap) (n - 1) (sayF.all (l.take k++l.drop (k+1)))∧w.grownBy w' (some g):=by
 have hrow:=zB (F:=sayF) how;have hle:=hrow.le;have htop:=hrow.top;unfold maxLen at htop;have HTK:Hid (w.ownsRow base 105 7 (.slice (some ⟨g,0,none⟩) k cap) k (sayF.all (l.take k))):=hide (by
  have:=zi3 how (Nat.le_of_lt hk)
  rw [zkh] at this;exact this)
 have HDR:Hid (GRow sayF w (if cap=k+1 then some ⟨g,0,none⟩ else some ⟨g,(k+1)*7,none⟩) (n - (k+1)) (cap - (k+1)) (l.drop (k+1))):=hide (hrow.drop70 (show k+1≤n by omega));have i1:(0:Int)≤(k:Int):=by omega
 have i2:(k:Int)≤(k:Int)+1:=by omega
 have i3:(k:Int)+1≤(n:Int):=by omega
 have i4:(n:Int)≤(cap:Int):=by omega
 have i5:¬n=k:=by omega
 have i6:(k:Int)≤(cap:Int):=by omega
 have i7:(0:Int)≤(k:Int)+1:=by omega
 have i8:¬(k:Int)=(k:Int)+1:=by omega
 have i9:IntKind.i64.wrap ((k:Int)+1)=(k:Int)+1:=by rw [IntKind.wrap_i64]; omega
 have i10:((k:Int)+1).toNat=k+1:=by omega
 clear how hrow;go_enter Tryz.func127,Tryz.ntmps127;go_upto_region 5 with fail
 refine wp_region_held_drew (S:=(fun _=>True)) (by kernel_rfl) (trivial) (fun hHeld => ?_);refine kK 0 ⟨some 20,.move (.tmp 0),32,"slices.go:232",#[],none⟩ ?_;refine kK 1 ⟨some 21,.move (.tmp 1),3,"slices.go:232",#[],none⟩ ?_;refine kK 2 ⟨some 22,.slice 32 (.tmp 20) none (some (.tmp 21)) none,32,"slices.go:232",#[⟨0,.data⟩,⟨1,.data⟩],none⟩ ?_;refine kK 3 ⟨some 23,.move (.tmp 0),32,"slices.go:232",#[],none⟩ ?_;refine kK 4 ⟨some 24,.move (.tmp 2),3,"slices.go:232",#[],none⟩ ?_;refine kK 5 ⟨some 25,.slice 32 (.tmp 23) (some (.tmp 24)) none none,32,"slices.go:232",#[⟨3,.data⟩,⟨4,.data⟩],none⟩ ?_;refine kR 6 ⟨some 26,.call ⟨.builtin .append,#[.tmp 22,.tmp 25],#[32,32]⟩,32,"slices.go:232",#[⟨2,.data⟩,⟨5,.data⟩],none⟩ (fun K hK => ?_);refine zdT (F:=sayF) rfl _ _ 32 105 rfl base Tryz.underlying32 zT g k cap (l.take k) rfl (zi HTK.out (zp (Below.refl _ _))) _ (n - (k+1)) (cap - (k+1)) (l.drop (k+1)) rfl (HDR.out.below (zp (Below.refl _ _))) (by omega) ?_;intro wx how hgr;rw [show k+(n - (k+1))=n - 1 by omega] at how ⊢;refine hK.out _ _ (trivial) (fun hHeld => ?_);clear hK K
 try simp only [Act.put,lA,lB,lC]
 refine tK (v := ?_) 7 ⟨some 0,.assign (.tmp 26),32,"slices.go:232",#[⟨6,.data⟩,⟨6,.chain⟩,⟨0,.phase⟩,⟨1,.phase⟩,⟨2,.phase⟩,⟨3,.phase⟩,⟨4,.phase⟩,⟨5,.phase⟩,⟨6,.phase⟩],none⟩ ?_ ?_;rotate_left
 ·(intro _ h; (try dsimp only at h); go_simp; try with_reducible rfl)
 simp only [Act.put,List.setIfInBounds_toArray,List.set_cons_zero];refine wpAnyH_done (by kernel_rfl) ?_ _;have vv:=hgr;obtain ⟨wc,hrun,hO,hgr2⟩:=zeQ (m:=0) how (by omega) 0;have HO:=hide hO;have HG:=hide (zhm (zp (Below.refl _ w)) (zz hgr hgr2));have c1:(0:Int)≤((n - 1:Nat):Int):=by omega
 have c2:((n - 1:Nat):Int)≤(n:Int):=by omega
 have c3:¬cap=n - 1:=by omega
 have c4:(n:Int)≤(cap:Int):=by omega
 have c5:n - (n - 1)=0+1:=by omega
 have c6:(n:Int).toNat - ((n - 1:Nat):Int).toNat=0+1:=by omega
 clear hHeld how hgr hgr2 hO vv HTK HDR;by_cases hc:cap=k+1
 ·subst hc;go_wp2;go_ret;exact ⟨rfl,HO.out,HG.out⟩
 ·go_wp2;go_ret;exact ⟨rfl,HO.out,HG.out⟩

theorem NiSt.saidTurn {w w2:World} {base X:Nat} {M:NV} (h:NiSt w base X M) (hg:w.grownBy w2 (Value.slice M.sa M.sn M.sc).ownBlock) {ao':Option Addr} {n' cap':Nat} {ss':List SY} (hr:w2.ownsRow base 105 7 (.slice ao' n' cap') n' (sayF.all ss')) :
  w2.heap[X]?=some (.cells #[.slice M.ba M.bn M.bc,.slice M.la M.ln M.lc,.slice M.sa M.sn M.sc] 76)∧NiSt (w2.setCell ⟨X,2,none⟩ (.slice ao' n' cap')) base X { M with sa:=ao',sn:=n',sc:=cap',ss:=ss' }∧Below base w (w2.setCell ⟨X,2,none⟩ (.slice ao' n' cap'))∧Only (X::blkL M.sa) w (w2.setCell ⟨X,2,none⟩ (.slice ao' n' cap')):=by
 have hrw:=h.own.s;have k1:=ze h.box hg (fun k hk=>zy hrw h.box (by decide) k hk);have ob:=h.own.b.typed hrw hg;have ol:=zu h.own.l hrw (by decide) hg;have hgx:w2.grownBy (w2.setCell ⟨X,2,none⟩ (.slice ao' n' cap')) (some X):=zg 2 _;have nb:=NOwn.boxedI (M:={ M with sa:=ao',sn:=n',sc:=cap',ss:=ss' }) ⟨ob,ol,hr⟩ k1 hgx;have b1:Below base w w:=Below.refl _ _;have b2:=b1.grown hg h.size (by intro k hk; exact (hrw.lt k hk).1);have hle:=h.le;refine ⟨k1,⟨?_,nb,h.le⟩,b2.grown hgx (by have:=zaS k1; omega) (by intro k e; cases e; omega), ?_⟩
 ·have:=zJ (j:=2) k1 (.slice ao' n' cap')
  simpa using this
 ·exact ((Only.of_grown hg).wider (fun b hb=>List.mem_cons_of_mem _ hb)).trans ((Only.set _ _ _ _).wider (fun b hb=>by simp at hb; simp [hb]))

theorem zgv (M:NV) (base X k:Nat) (w:World) (h:NiSt w base X M) (hk:k < M.sn) (hn:M.sn≤16777216) :
  Calls Tryz.prog 74 #[.pointer (some ⟨X,0,none⟩),.int .i64 (k:Int)] w fun e w'=>e=.returned (.tuple #[])∧NiSt w' base X { M with sn:=M.sn - 1,ss:=M.ss.take k++M.ss.drop (k+1) }∧Below base w w'∧Only (X::blkL M.sa) w w':=by
 obtain ⟨ba,bn,bc,bs,la,ln,lc,ls,sa,sn,sc,ss⟩:=M;dsimp only at hk hn ⊢;obtain ⟨g,hg⟩:∃g,sa=some ⟨g,0,none⟩:=za2 h.own.s (show 0 < sn by omega);subst hg;obtain ⟨x0,x1,x2⟩:=zd h.box;dsimp only at x0 x1 x2;go_enter Tryz.func74,Tryz.ntmps74;go_wp2_with fail
 refine (zga base g sn sc k ss _ h.own.s hk hn).mono ?_;rintro e w1 ⟨rfl,how,hgr⟩;obtain ⟨kX,st,hb,hO⟩:=h.saidTurn hgr how;clear x0 x1 x2;obtain ⟨x0,x1,x2⟩:=zd kX;dsimp only at x0 x1 x2;have f2:=zf kX 2;have HST:=hide st;have HB:=hide hb;have HO:=hide hO;clear st hb hO how hgr h kX;go_wp2;refine bodyPost_end (v:=.tuple #[]) (by simp [results,Tryz.results74,go_sem, *]) rfl ?_;exact ⟨rfl,HST.out,HB.out,HO.out⟩

theorem zgN {N:NV} (h:∀B∈N.brs,B.Rg):∀y∈N.bs,y.B.Rg:=fun y hy=>h y.B (by unfold NV.brs; exact List.mem_map_of_mem hy)

theorem zhd (M:NV) (base X:Nat) (s:SY) (w:World) (h:NiSt w base X M) (he:∀x∈M.ls,zbt M.brs x) (hsm:∀y∈M.bs,y.Small20) (hrg:∀B∈M.brs,B.Rg) (hso:SayOk M.ls s) :
  Calls Tryz.prog 126 #[.pointer (some ⟨X,0,none⟩),.agg #[.int .i64 s.l,.bool s.back,.int .i64 s.v.r,.int .i64 s.v.c,.int .i64 s.v.h,.int .i64 s.v.b,.int .i64 s.v.p]] w fun e w'=>e=.returned (.tuple #[])∧∃bs2:List BV,NiSt w' base X { M with bs:=bs2 }∧bs2.map BV.B=za9 M.brs M.ls 2 s∧Below base w w':=by
 obtain ⟨sl,sb,sv⟩:=s;obtain ⟨k,hk⟩:∃k:Nat,sl=(k:Int):=⟨sl.toNat,by have:=hso.1; simp at this; omega⟩;subst hk;obtain ⟨x,hx⟩:∃x,M.ls[k]?=some x:=⟨_,List.getElem?_eq_getElem (by have:=hso.1; simp at this; omega)⟩;cases hu:zak M.brs M.ls (k:Int)
 ·refine (ziX M base X k sb sv w h hu).mono ?_;rintro e w1 ⟨rfl,st,hb⟩;exact ⟨rfl,M.bs,st,by unfold za9; rw [if_neg (by intro hc; rw [hu] at hc; cases hc.2)]; rfl,hb⟩
 ·obtain ⟨-,u,v,hpa,hpb,-⟩:=he x (List.mem_of_getElem? hx);have hpa:zaG (M.bs.map BV.B) x.a x.p=some u:=hpa;have hpb:zaG (M.bs.map BV.B) x.b x.q=some v:=hpb;obtain ⟨i,y,hi,hy⟩:=zaH hpa;obtain ⟨j,z,hj,hz⟩:=zaH hpb;cases sb
  ·refine (zd7 M base X k j false sv x z (i:Int) x.p x.q w h hu hx ⟨(fun e=>by cases e),fun _=>⟨hi.symm,rfl,hj.symm,rfl⟩⟩ hz (hsm z (List.mem_of_getElem? hz)) (zgN hrg z (List.mem_of_getElem? hz))).mono ?_;rintro e w1 ⟨rfl,y2,hy2,st,hb⟩;refine ⟨rfl,_,st, ?_,hb⟩;unfold za9 zee;rw [if_pos ⟨rfl,hu⟩];simp only [Int.toNat_natCast,hx,if_false,Bool.false_eq_true];rw [hj];exact zbB (f:=fun B=>hearB B x.q sv) hz hy2
  ·refine (zd7 M base X k i true sv x y (j:Int) x.q x.p w h hu hx ⟨fun _=>⟨hj.symm,rfl,hi.symm,rfl⟩,(fun e=>by cases e)⟩ hy (hsm y (List.mem_of_getElem? hy)) (zgN hrg y (List.mem_of_getElem? hy))).mono ?_;rintro e w1 ⟨rfl,y2,hy2,st,hb⟩;refine ⟨rfl,_,st, ?_,hb⟩;unfold za9 zee;rw [if_pos ⟨rfl,hu⟩];simp only [Int.toNat_natCast,hx,if_true];rw [hi];exact zbB (f:=fun B=>hearB B x.p sv) hy hy2

theorem zjO (M:NV) (base X k:Nat) (s:SY) (w:World) (h:NiSt w base X M) (hs:M.ss[k]?=some s) (hn:M.sn≤16777216) (he:∀x∈M.ls,zbt M.brs x) (hsm:∀y∈M.bs,y.Small20) (hrg:∀B∈M.brs,B.Rg) (hso:SayOk M.ls s) :
  Calls Tryz.prog 73 #[.pointer (some ⟨X,0,none⟩),.int .i64 (k:Int)] w fun e w'=>e=.returned (.tuple #[])∧∃bs2:List BV,NiSt w' base X { M with bs:=bs2,sn:=M.sn - 1,ss:=M.ss.take k++M.ss.drop (k+1) }∧bs2.map BV.B=za9 M.brs M.ls 2 s∧Below base w w':=by
 have hk:k < M.sn:=by have h1:=(List.getElem?_eq_some_iff.1 hs).1; have h2:=h.own.row.s.size; omega
 obtain ⟨x',sb0,so0,hx',hsa,a0,a1,a2,a3,a4,a5,a6⟩:=zdM h.own.row.s k hk;rw [hs] at hx';cases hx';obtain ⟨x0,x1,x2⟩:=zd h.box;rw [hsa] at x2;have i1:(0:Int)≤(k:Int):=by omega
 have i2:(k:Int) < (M.sn:Int):=by omega
 have HSO:=hide hso;have HSA:=hide hsa;clear hsa hs;generalize hw1:w.alloc (Obj.cells #[.int .i64 s.l,.bool s.back,.int .i64 s.v.r,.int .i64 s.v.c,.int .i64 s.v.h,.int .i64 s.v.b,.int .i64 s.v.p] 105)=w1;have b01:=zb hw1;have kY:=zk hw1;have st:=h.later b01;have HB1:=hide (b01.mono h.size);have HXL:Hid (X < w.heap.size):=hide (zaS h.box);have HSL:Hid (∀b∈blkL M.sa,b < w.heap.size):=hide (fun b hb=>(h.own.s.lt b (zR.2 hb)).2);go_enter Tryz.func73,Tryz.ntmps73;go_wp2_with fail
 refine (zgv M base X k _ st hk hn).mono ?_;rintro e w2 ⟨rfl,st2,hb2,O2⟩;have kY:=O2.kept kY (fun hc=>by
  rcases List.mem_cons.1 hc with e | e
  ·have:=HXL.out; omega
  ·have:=HSL.out _ e; omega)
 have HB2:=hide (HB1.out.trans hb2);clear x0 x1 x2 a0 a1 a2 a3 a4 a5 a6 st h b01 hb2 O2 hw1;obtain ⟨s0,s1,s2,s3,s4,s5,s6⟩:=zU kY;go_wp2_with fail
 refine (zhd _ base X s _ st2 he hsm hrg HSO.out).mono ?_;rintro e w3 ⟨rfl,bs2,st3,hbs,hb3⟩;have HST:=hide st3;have HBS:=hide hbs;have HB:=hide (HB2.out.trans hb3);clear s0 s1 s2 s3 s4 s5 s6 kY st2 st3 hbs hb3;go_wp2;refine bodyPost_end (v:=.tuple #[]) (by simp [results,Tryz.results73,go_sem, *]) rfl ?_;exact ⟨rfl,bs2,HST.out,HBS.out,HB.out⟩

abbrev q414:Oper:=⟨some 16,.load 32 (.tmp 15),32,"l14_step.go:119",#[⟨4,.data⟩],none⟩
abbrev q415:Oper:=⟨some 18,.buildSlice 32 1 #[(0,.tmp 17)],32,"l14_step.go:119",#[⟨6,.data⟩],none⟩
abbrev q416:Oper:=⟨some 19,.call ⟨.builtin .append,#[.tmp 16,.tmp 18],#[32,32]⟩,32,"l14_step.go:119",#[⟨5,.data⟩,⟨7,.data⟩],none⟩
abbrev q417:Oper:=⟨some 20,.nilCheck (.tmp 11),0,"l14_step.go:119",#[⟨0,.data⟩,⟨0,.phase⟩,⟨1,.phase⟩,⟨2,.phase⟩,⟨3,.phase⟩,⟨4,.phase⟩,⟨5,.phase⟩,⟨6,.phase⟩,⟨7,.phase⟩,⟨8,.phase⟩],none⟩
abbrev q418:Oper:=⟨some 21,.fieldAddr 76 (.tmp 20) 0,0,"l14_step.go:119",#[⟨9,.data⟩,⟨0,.phase⟩,⟨1,.phase⟩,⟨2,.phase⟩,⟨3,.phase⟩,⟨4,.phase⟩,⟨5,.phase⟩,⟨6,.phase⟩,⟨7,.phase⟩,⟨8,.phase⟩],none⟩
abbrev q419:Oper:=⟨some 22,.fieldAddr 34 (.tmp 21) 2,0,"l14_step.go:119",#[⟨10,.data⟩,⟨0,.phase⟩,⟨1,.phase⟩,⟨2,.phase⟩,⟨3,.phase⟩,⟨4,.phase⟩,⟨5,.phase⟩,⟨6,.phase⟩,⟨7,.phase⟩,⟨8,.phase⟩],none⟩
abbrev q420:Oper:=⟨none,.store 32 (.tmp 22) (.tmp 19),0,"l14_step.go:119",#[⟨11,.data⟩,⟨8,.data⟩,⟨8,.chain⟩,⟨0,.phase⟩,⟨1,.phase⟩,⟨2,.phase⟩,⟨3,.phase⟩,⟨4,.phase⟩,⟨5,.phase⟩,⟨6,.phase⟩,⟨7,.phase⟩,⟨8,.phase⟩],none⟩
abbrev q421:Oper:=⟨some 35,.move (.tmp 0),73,"l14_step.go:112",#[],none⟩
abbrev q422:Oper:=⟨some 36,.move (.tmp 0),73,"l14_step.go:112",#[],none⟩
abbrev q423:Oper:=⟨some 37,.nilCheck (.tmp 36),0,"l14_step.go:112",#[⟨1,.data⟩],none⟩
abbrev q424:Oper:=⟨some 38,.fieldAddr 76 (.tmp 37) 0,0,"l14_step.go:112",#[⟨2,.data⟩],none⟩
abbrev q425:Oper:=⟨some 40,.move (.tmp 4),3,"l14_step.go:112",#[],none⟩
abbrev q426:Oper:=⟨some 41,.fieldAddr 98 (.tmp 5) 2,0,"l14_step.go:112",#[],none⟩
abbrev q427:Oper:=⟨some 43,.move (.tmp 1),3,"l14_step.go:112",#[],none⟩
abbrev q428:Oper:=⟨some 39,.load 34 (.tmp 38),34,"l14_step.go:112",#[⟨3,.data⟩],none⟩
abbrev q429:Oper:=⟨some 42,.load 3 (.tmp 41),3,"l14_step.go:112",#[⟨6,.data⟩],none⟩
abbrev q430:Oper:=⟨some 44,.binOp .eql 3 (.tmp 42) (.tmp 43) 3,4,"l14_step.go:112",#[⟨7,.data⟩,⟨8,.data⟩],none⟩
abbrev q431:Oper:=⟨some 45,.call ⟨.value (.func 125),#[.tmp 39,.tmp 40,.tmp 44],#[34,3,4]⟩,105,"l14_step.go:112",#[⟨4,.data⟩,⟨5,.data⟩,⟨9,.data⟩],none⟩
abbrev q432:Oper:=⟨some 46,.call ⟨.value (.func 124),#[.tmp 35,.tmp 45],#[73,105]⟩,0,"l14_step.go:112",#[⟨0,.data⟩,⟨10,.data⟩,⟨10,.chain⟩],none⟩

theorem zb0 (M:NV) (base X:Nat) (s:SY) (w:World) (ss':List SY) (h:NiSt w base X M) (hn:M.sn≤40) (hss:ss'=if M.sn < 40 then M.ss++[s] else M.ss) :
  Calls Tryz.prog 124 #[.pointer (some ⟨X,0,none⟩),.agg #[.int .i64 s.l,.bool s.back,.int .i64 s.v.r,.int .i64 s.v.c,.int .i64 s.v.h,.int .i64 s.v.b,.int .i64 s.v.p]] w fun e w'=>e=.returned (.tuple #[])∧∃(sa:Option Addr) (sn sc:Nat),NiSt w' base X { M with sa:=sa,sn:=sn,sc:=sc,ss:=ss' }∧Below base w w':=by
 have HSS:=hide hss;clear hss;generalize hw1:w.alloc (Obj.cells #[.int .i64 s.l,.bool s.back,.int .i64 s.v.r,.int .i64 s.v.c,.int .i64 s.v.h,.int .i64 s.v.b,.int .i64 s.v.p] 105)=w1;have b01:=zb hw1;have kY:=zk hw1;have HXL:Hid (X < w.heap.size):=hide (zaS h.box);have HSL:Hid (∀b,(Value.slice M.sa M.sn M.sc).ownBlock=some b→b < w.heap.size):=hide (fun b hb=>(h.own.s.lt b hb).2);have st:=h.later b01;have HB1:=hide (b01.mono h.size);have HKY:=hide kY;obtain ⟨x0,x1,x2⟩:=zd st.box;go_enter Tryz.func124,Tryz.ntmps124;by_cases h40:M.sn < 40
 ·have t1:(M.sn:Int) < 40:=by omega
  (go_upto_region 2 with fail);clear hw1 b01 h;have vv:Below w1.heap.size w1 w1.drew:=zp (Below.refl _ _);clear x0 x1 x2 kY;obtain ⟨x0,x1,x2⟩:=zd (za st.box vv);have kY:=za HKY.out vv;refine wp_region_held_drew (S:=(fun W=>(W.cell? ⟨w.heap.size,0,none⟩=some (.int .i64 s.l)∧W.cell? ⟨w.heap.size,1,none⟩=some (.bool s.back)∧W.cell? ⟨w.heap.size,2,none⟩=some (.int .i64 s.v.r)∧W.cell? ⟨w.heap.size,3,none⟩=some (.int .i64 s.v.c)∧W.cell? ⟨w.heap.size,4,none⟩=some (.int .i64 s.v.h)∧W.cell? ⟨w.heap.size,5,none⟩=some (.int .i64 s.v.b)∧W.cell? ⟨w.heap.size,6,none⟩=some (.int .i64 s.v.p)))) (by kernel_rfl) (zU kY) (fun hHeld => ?_);refine kK 0 ⟨some 11,.move (.tmp 0),73,"l14_step.go:119",#[],none⟩ ?_;refine kK 1 ⟨some 12,.move (.tmp 0),73,"l14_step.go:119",#[],none⟩ ?_;refine kK 2 ⟨some 13,.nilCheck (.tmp 12),0,"l14_step.go:119",#[⟨1,.data⟩],none⟩ ?_;refine kK 3 ⟨some 14,.fieldAddr 76 (.tmp 13) 0,0,"l14_step.go:119",#[⟨2,.data⟩],none⟩ ?_;refine kK 4 ⟨some 15,.fieldAddr 34 (.tmp 14) 2,0,"l14_step.go:119",#[⟨3,.data⟩],none⟩ ?_;refine kK 6 ⟨some 17,.load 105 (.tmp 3),105,"l14_step.go:119",#[],none⟩ ?_;refine tR [5,7] ?_;refine AllReadyH.cons (o:=q414) rfl (fun K hK => ?_) ?_
  ·go_simp;refine hK.out _ _ (zU kY) (fun hHeld => ?_);clear hK K;(try simp only [Act.put,lA,lB,lC]);refine kR 7 q415 (fun K hK => ?_);go_simp
   first
   | refine zx (K:=K _) (fun wx kN hbx => ?_)
   | refine zq (K:=K _) (fun wx kN hbx => ?_)
   have vv:=zc vv hbx;obtain ⟨x0,x1,x2⟩:=zd (za st.box vv);have kY:=za HKY.out vv;clear hbx;refine hK.out _ _ (zU kY) (fun hHeld => ?_);clear hK K;(try simp only [Act.put,lA,lB,lC]);refine kR 8 q416 (fun K hK => ?_);have gn1:GRow sayF wx (some ⟨_,0,none⟩) 1 1 [s]:=zB (F:=sayF) (zaX sayF (base:=0) (l:=[s]) kN rfl (Nat.zero_le _) (by simp));refine zj (F:=sayF) rfl _ _ 32 105 rfl base Tryz.underlying32 zT rfl (by decide) _ M.sn M.ss rfl (zi st.own.s vv) _ 1 1 _ rfl gn1 (by omega) (Nat.le_trans st.size vv.size) ?_;intro aL cL wL how _ hgr hbL;obtain ⟨kX,stN,hBN⟩:=st.pushS (s:=s) vv hgr how;obtain ⟨x0,x1,x2⟩:=zd kX;have fz:=zf kX 2;have kY:=ze kY hgr (fun j hj=>by have:=HSL.out j hj; omega);refine hK.out _ _ (zU kY) (fun hHeld => ?_);clear hK K;(try simp only [Act.put,lA,lB,lC]);refine kK 9 q417 ?_;refine kK 10 q418 ?_;refine kK 11 q419 ?_;refine kR 12 q420 (fun K hK => ?_);go_simp;have kY:=ze kY (zg (rb:=X) 2 (.slice aL (M.sn+1) cL)) (by intro j e; cases e; have:=HXL.out; omega);refine hK.out _ _ (zU kY) (fun hHeld => ?_);clear hK K;(try simp only [Act.put,lA,lB,lC]);refine wpAnyH_done (by kernel_rfl) ?_ _;have HST:=hide stN;have HBN:=hide (HB1.out.trans hBN);clear hHeld kX how hgr hbL x0 x1 x2 fz kN gn1 vv stN hBN kY;go_wp2;refine bodyPost_end (v:=.tuple #[]) (by simp [results,Tryz.results124,go_sem, *]) rfl ?_;have e:=HSS.out;rw [if_pos h40] at e;subst e
   first | exact ⟨rfl,⟨aL,_,cL,HST.out⟩,HBN.out⟩ | exact ⟨rfl,aL,_,cL,HST.out,HBN.out⟩
  refine AllReadyH.cons (o:=q415) rfl (fun K hK => ?_) ?_
  ·go_simp
   first
   | refine zx (K:=K _) (fun wx kN hbx => ?_)
   | refine zq (K:=K _) (fun wx kN hbx => ?_)
   have vv:=zc vv hbx;obtain ⟨x0,x1,x2⟩:=zd (za st.box vv);have kY:=za HKY.out vv;clear hbx;refine hK.out _ _ (zU kY) (fun hHeld => ?_);clear hK K;(try simp only [Act.put,lA,lB,lC]);refine kR 5 q414 (fun K hK => ?_);go_simp;refine hK.out _ _ (zU kY) (fun hHeld => ?_);clear hK K;(try simp only [Act.put,lA,lB,lC]);refine kR 8 q416 (fun K hK => ?_);have gn1:GRow sayF wx (some ⟨_,0,none⟩) 1 1 [s]:=zB (F:=sayF) (zaX sayF (base:=0) (l:=[s]) kN rfl (Nat.zero_le _) (by simp));refine zj (F:=sayF) rfl _ _ 32 105 rfl base Tryz.underlying32 zT rfl (by decide) _ M.sn M.ss rfl (zi st.own.s vv) _ 1 1 _ rfl gn1 (by omega) (Nat.le_trans st.size vv.size) ?_;intro aL cL wL how _ hgr hbL;obtain ⟨kX,stN,hBN⟩:=st.pushS (s:=s) vv hgr how;obtain ⟨x0,x1,x2⟩:=zd kX;have fz:=zf kX 2;have kY:=ze kY hgr (fun j hj=>by have:=HSL.out j hj; omega);refine hK.out _ _ (zU kY) (fun hHeld => ?_);clear hK K;(try simp only [Act.put,lA,lB,lC]);refine kK 9 q417 ?_;refine kK 10 q418 ?_;refine kK 11 q419 ?_;refine kR 12 q420 (fun K hK => ?_);go_simp;have kY:=ze kY (zg (rb:=X) 2 (.slice aL (M.sn+1) cL)) (by intro j e; cases e; have:=HXL.out; omega);refine hK.out _ _ (zU kY) (fun hHeld => ?_);clear hK K;(try simp only [Act.put,lA,lB,lC]);refine wpAnyH_done (by kernel_rfl) ?_ _;have HST:=hide stN;have HBN:=hide (HB1.out.trans hBN);clear hHeld kX how hgr hbL x0 x1 x2 fz kN gn1 vv stN hBN kY;go_wp2;refine bodyPost_end (v:=.tuple #[]) (by simp [results,Tryz.results124,go_sem, *]) rfl ?_;have e:=HSS.out;rw [if_pos h40] at e;subst e
   first | exact ⟨rfl,⟨aL,_,cL,HST.out⟩,HBN.out⟩ | exact ⟨rfl,aL,_,cL,HST.out,HBN.out⟩
  exact AllReadyH.nil
 ·have t1:¬(M.sn:Int) < 40:=by omega
  have HST:=hide st;clear b01 h kY st;go_wp2;refine bodyPost_end (v:=.tuple #[]) (by simp [results,Tryz.results124,go_sem, *]) rfl ?_;have e:=HSS.out;rw [if_neg h40] at e;subst e
  first | exact ⟨rfl,⟨M.sa,M.sn,M.sc,HST.out⟩,HB1.out⟩ | exact ⟨rfl,M.sa,M.sn,M.sc,HST.out,HB1.out⟩

theorem zla {bs:List BR} {ls:List LK} {b:Int} {ss:List SY} {k:Nat} {x:LK} (hx:ls[k]?=some x) (hu:zak bs ls (k:Int)=true) (ha:x.a=b):zbo bs ls b ss k=if ss.length < 40 then ss++[⟨(k:Int),false,sayAt bs x.a x.p⟩] else ss:=by
 unfold zbo; rw [hx]; simp only [hu,ha,true_and,if_true]
theorem zj9 {bs:List BR} {ls:List LK} {b:Int} {ss:List SY} {k:Nat} {x:LK} (hx:ls[k]?=some x) (hu:zak bs ls (k:Int)=true) (ha:x.a≠b) (hb:x.b=b):zbo bs ls b ss k=if ss.length < 40 then ss++[⟨(k:Int),true,sayAt bs x.b x.q⟩] else ss:=by
 unfold zbo; rw [hx]; simp only [hu,true_and,if_neg ha,if_pos hb]

theorem zli (M:NV) (base X:Nat) (b:Int) (w:World) (h:NiSt w base X M) (he:∀x∈M.ls,zbt M.brs x) (hs:M.ss.length≤40) :
  Calls Tryz.prog 71 #[.pointer (some ⟨X,0,none⟩),.int .i64 b] w fun e w'=>e=.returned (.tuple #[])∧∃(sa:Option Addr) (sn sc:Nat),NiSt w' base X { M with sa:=sa,sn:=sn,sc:=sc,ss:=sayTo M.brs M.ls b M.ss M.ln }∧Below base w w':=by
 obtain ⟨ba,bn,bc,bs,la,ln,lc,ls,sa0,sn0,sc0,ss0⟩:=M;have he:∀x∈ls,zbt (bs.map BV.B) x:=he;dsimp only at hs
 show Calls Tryz.prog 71 #[.pointer (some ⟨X,0,none⟩),.int .i64 b] w fun e w'=>e=.returned (.tuple #[])∧∃(sa:Option Addr) (sn sc:Nat),NiSt w' base X ⟨ba,bn,bc,bs,la,ln,lc,ls,sa,sn,sc,sayTo (bs.map BV.B) ls b ss0 ln⟩∧Below base w w'
 have hll:ls.length=ln:=h.own.row.l.size;have HE:=hide he;have HS0:=hide hs;have hle:=Nat.le_trans h.own.row.l.le h.own.row.l.top;unfold maxLen at hle;dsimp only at hle;clear he hs;obtain ⟨x0,x1,x2⟩:=zd h.box;dsimp only at x0 x1 x2;go_enter Tryz.func71,Tryz.ntmps71;go_wp2_with fail
 clear x0 x1 x2
 go_loopw [4,5,12] (fun _ _ i wr=>∃(k:Nat) (sa:Option Addr) (sn sc:Nat),k≤ln∧i=.int .i64 k∧NiSt wr base X ⟨ba,bn,bc,bs,la,ln,lc,ls,sa,sn,sc,sayTo (bs.map BV.B) ls b ss0 k⟩∧Below base w wr) (fun _ _ i _=>ln - (intOf i).toNat)
 case atStart=>exact ⟨0,sa0,sn0,sc0,Nat.zero_le _,rfl,h,Below.refl _ _⟩
 case round =>
  clear h;obtain ⟨k,sa,sn,sc,hk,rfl,st,hB⟩:=hrel;by_cases hlt:k < ln
  ·obtain ⟨x,lb,lo,hx,hla,a0,a1,a2,a3⟩:=zaw st.own.row.l k hlt;dsimp only at hx hla a0 a1 a2 a3;have hsl:(sayTo (bs.map BV.B) ls b ss0 k).length=sn:=st.own.row.s.size;have hsn:sn≤40:=by rw [← hsl]; exact ziJ _ _ _ _ HS0.out k
   have HX:=hide hx;have hnx:sayTo (bs.map BV.B) ls b ss0 (k+1)=zbo (bs.map BV.B) ls b (sayTo (bs.map BV.B) ls b ss0 k) k:=rfl;generalize sayTo (bs.map BV.B) ls b ss0 k=ss at *;have i0:(k:Int) < (ln:Int):=by omega
   have i1:(0:Int)≤(k:Int):=by omega
   obtain ⟨wu,hwu⟩:∃u,u=wr:=⟨_,rfl⟩;subst hwu;generalize hw1:wu.alloc (Obj.cells #[.int .i64 x.a,.int .i64 x.p,.int .i64 x.b,.int .i64 x.q] 98)=w1;have b01:=zb hw1;have kL:=zk hw1;have hB1:=hB.trans (b01.mono st.size);have st:=st.later b01;obtain ⟨x0,x1,x2⟩:=zd st.box;dsimp only at x0 x1 x2;subst hla;(go_upto_region 3 with fail);clear hw1 b01 a0 a1 a2 a3 hB;obtain ⟨c0,c1,c2,c3⟩:=zM kL;(go_wp2_with fail);refine (za7 ⟨ba,bn,bc,bs,some ⟨lb,lo,none⟩,ln,lc,ls,sa,sn,sc,ss⟩ (k:Int) _ st.own.row).mono ?_;rintro e w2 ⟨rfl,b2⟩;have hB2:=hB1.trans (b2.mono st.size);have st:=st.later b2;have kL:=za kL b2;clear b2 x0 x1 x2 c0 c1 c2 c3 hB1;generalize hU:zak _ _ _=U;have hU:zak (bs.map BV.B) ls (k:Int)=U:=hU;obtain ⟨c0,c1,c2,c3⟩:=zM kL;have HB2:=hide hB2;clear hB2;cases U
   ·have HS:Hid (sayTo (bs.map BV.B) ls b ss0 (k+1)=ss):=hide (by rw [hnx,ziw hU]);have HST:=hide st;clear hU hnx st kL;go_wp2
    go_roundw
    case rel=>exact ⟨k+1,sa,sn,sc,by omega,by go_num,by rw [HS.out]; exact HST.out,HB2.out⟩
    case measure=>simp [intOf]; omega
   ·obtain ⟨hnab,u,v,hpa,hpb,-⟩:=HE.out x (List.mem_of_getElem? hx);by_cases hab:x.a=b
    ·obtain ⟨i,y,hi,hy⟩:=zaH hpa;obtain ⟨i',y',hi',-⟩:=zaH hpb;have HS:Hid (sayTo (bs.map BV.B) ls b ss0 (k+1)=if sn < 40 then ss++[⟨(k:Int),false,sayV y.B.id y.B.ports x.p⟩] else ss):=hide (by rw [hnx,zla hx hU hab,hi,zdm hy,hsl]);have HYI:=hide hy;have HWAY:Hid (Way x false (i:Int) x.p x.b x.q):=hide ⟨(fun e=>by cases e),fun _=>⟨hi.symm,rfl,rfl,rfl⟩⟩;have e1:(x.a == b)=true:=by simpa using hab
     have e2:(x.b == b)=false:=by rw [← hab]; simpa using Ne.symm hnab
     generalize hSV:sayV y.B.id y.B.ports x.p=SV at *;have HSV:Hid (sayV y.B.id y.B.ports x.p=SV):=hide hSV;clear hpa hpb hx hy hi hi' hnx hab hnab hSV hU;(go_upto_region 4 with fail);obtain ⟨x0,x1,x2⟩:=zd st.box;dsimp only at x0 x1 x2;have vv:Below w2.heap.size w2 w2.drew:=zp (Below.refl _ _);have kL:=za kL vv;refine wp_region_held_drew (S:=(fun _=>True)) (by kernel_rfl) (trivial) (fun hHeld => ?_);refine kK 0 q421 ?_;refine kK 1 q422 ?_;refine kK 2 q423 ?_;refine kK 3 q424 ?_;refine kK 5 q425 ?_;refine kK 6 q426 ?_;refine kK 8 q427 ?_;refine tR [4,7] ?_;refine AllReadyH.cons (o:=q428) rfl (fun K hK => ?_) ?_
     ·go_simp;refine hK.out _ _ (trivial) (fun hHeld => ?_);clear hK K;(try simp only [Act.put,lA,lB,lC]);refine kR 7 q429 (fun K hK => ?_);go_simp;refine hK.out _ _ (trivial) (fun hHeld => ?_);clear hK K;(try simp only [Act.put,lA,lB,lC]);refine kV 9 q430 (.bool false) ?_;refine kR 10 q431 (fun K hK => ?_);go_simp;refine (zdl ⟨ba,bn,bc,bs,some ⟨lb,lo,none⟩,ln,lc,ls,sa,sn,sc,ss⟩ k i x y false x.p x.b x.q _ (st.own.below vv).row HX.out HYI.out HWAY.out).mono ?_;rintro e wz ⟨rfl,hbz⟩;have vv:=zc vv hbz;have kL:=za kL hbz;rw [HSV.out];(go_wp2_with fail);refine hK.out _ _ (trivial) (fun hHeld => ?_);clear hK K;(try simp only [Act.put,lA,lB,lC]);refine kR 11 q432 (fun K hK => ?_);go_simp;refine (zb0 ⟨ba,bn,bc,bs,some ⟨lb,lo,none⟩,ln,lc,ls,sa,sn,sc,ss⟩ base X ⟨(k:Int),false,SV⟩ _ (sayTo (bs.map BV.B) ls b ss0 (k+1)) (st.later vv) (by omega) HS.out).mono ?_;rintro e wy ⟨rfl,aL,sL,cL,stN,hbN⟩;(go_wp2_with fail);refine hK.out _ _ (trivial) (fun hHeld => ?_);clear hK K;(try simp only [Act.put,lA,lB,lC]);refine wpAnyH_done (by kernel_rfl) ?_ _;have HST:=hide stN;have HBN:=hide ((HB2.out.trans (vv.mono st.size)).trans hbN);clear hHeld vv stN hbN kL st x0 x1 x2 c0 c1 c2 c3;go_wp2
      go_roundw
      case rel=>exact ⟨k+1,aL,sL,cL,by omega,by go_num,HST.out,HBN.out⟩
      case measure=>simp [intOf]; omega
     refine AllReadyH.cons (o:=q429) rfl (fun K hK => ?_) ?_
     ·go_simp;refine hK.out _ _ (trivial) (fun hHeld => ?_);clear hK K;(try simp only [Act.put,lA,lB,lC]);refine kV 9 q430 (.bool false) ?_;refine kR 4 q428 (fun K hK => ?_);go_simp;refine hK.out _ _ (trivial) (fun hHeld => ?_);clear hK K;(try simp only [Act.put,lA,lB,lC]);refine kR 10 q431 (fun K hK => ?_);go_simp;refine (zdl ⟨ba,bn,bc,bs,some ⟨lb,lo,none⟩,ln,lc,ls,sa,sn,sc,ss⟩ k i x y false x.p x.b x.q _ (st.own.below vv).row HX.out HYI.out HWAY.out).mono ?_;rintro e wz ⟨rfl,hbz⟩;have vv:=zc vv hbz;have kL:=za kL hbz;rw [HSV.out];(go_wp2_with fail);refine hK.out _ _ (trivial) (fun hHeld => ?_);clear hK K;(try simp only [Act.put,lA,lB,lC]);refine kR 11 q432 (fun K hK => ?_);go_simp;refine (zb0 ⟨ba,bn,bc,bs,some ⟨lb,lo,none⟩,ln,lc,ls,sa,sn,sc,ss⟩ base X ⟨(k:Int),false,SV⟩ _ (sayTo (bs.map BV.B) ls b ss0 (k+1)) (st.later vv) (by omega) HS.out).mono ?_;rintro e wy ⟨rfl,aL,sL,cL,stN,hbN⟩;(go_wp2_with fail);refine hK.out _ _ (trivial) (fun hHeld => ?_);clear hK K;(try simp only [Act.put,lA,lB,lC]);refine wpAnyH_done (by kernel_rfl) ?_ _;have HST:=hide stN;have HBN:=hide ((HB2.out.trans (vv.mono st.size)).trans hbN);clear hHeld vv stN hbN kL st x0 x1 x2 c0 c1 c2 c3;go_wp2
      go_roundw
      case rel=>exact ⟨k+1,aL,sL,cL,by omega,by go_num,HST.out,HBN.out⟩
      case measure=>simp [intOf]; omega
     exact AllReadyH.nil
    ·have e1:(x.a == b)=false:=by simpa using hab
     by_cases hbb:x.b=b
     ·obtain ⟨i,y,hi,hy⟩:=zaH hpb;have HS:Hid (sayTo (bs.map BV.B) ls b ss0 (k+1)=if sn < 40 then ss++[⟨(k:Int),true,sayV y.B.id y.B.ports x.q⟩] else ss):=hide (by rw [hnx,zj9 hx hU hab hbb,hi,zdm hy,hsl]);have HYI:=hide hy;have HWAY:Hid (Way x true (i:Int) x.q x.a x.p):=hide ⟨fun _=>⟨hi.symm,rfl,rfl,rfl⟩,(fun e=>by cases e)⟩;have e2:(x.b == b)=true:=by simpa using hbb
      generalize hSV:sayV y.B.id y.B.ports x.q=SV at *;have HSV:Hid (sayV y.B.id y.B.ports x.q=SV):=hide hSV;clear hpa hpb hx hy hi hnx hab hnab hSV hbb hU;(go_upto_region 4 with fail);obtain ⟨x0,x1,x2⟩:=zd st.box;dsimp only at x0 x1 x2;have vv:Below w2.heap.size w2 w2.drew:=zp (Below.refl _ _);have kL:=za kL vv;refine wp_region_held_drew (S:=(fun _=>True)) (by kernel_rfl) (trivial) (fun hHeld => ?_);refine kK 0 q421 ?_;refine kK 1 q422 ?_;refine kK 2 q423 ?_;refine kK 3 q424 ?_;refine kK 5 q425 ?_;refine kK 6 q426 ?_;refine kK 8 q427 ?_;refine tR [4,7] ?_;refine AllReadyH.cons (o:=q428) rfl (fun K hK => ?_) ?_
      ·go_simp;refine hK.out _ _ (trivial) (fun hHeld => ?_);clear hK K;(try simp only [Act.put,lA,lB,lC]);refine kR 7 q429 (fun K hK => ?_);go_simp;refine hK.out _ _ (trivial) (fun hHeld => ?_);clear hK K;(try simp only [Act.put,lA,lB,lC]);refine kV 9 q430 (.bool true) ?_;refine kR 10 q431 (fun K hK => ?_);go_simp;refine (zdl ⟨ba,bn,bc,bs,some ⟨lb,lo,none⟩,ln,lc,ls,sa,sn,sc,ss⟩ k i x y true x.q x.a x.p _ (st.own.below vv).row HX.out HYI.out HWAY.out).mono ?_;rintro e wz ⟨rfl,hbz⟩;have vv:=zc vv hbz;have kL:=za kL hbz;rw [HSV.out];(go_wp2_with fail);refine hK.out _ _ (trivial) (fun hHeld => ?_);clear hK K;(try simp only [Act.put,lA,lB,lC]);refine kR 11 q432 (fun K hK => ?_);go_simp;refine (zb0 ⟨ba,bn,bc,bs,some ⟨lb,lo,none⟩,ln,lc,ls,sa,sn,sc,ss⟩ base X ⟨(k:Int),true,SV⟩ _ (sayTo (bs.map BV.B) ls b ss0 (k+1)) (st.later vv) (by omega) HS.out).mono ?_;rintro e wy ⟨rfl,aL,sL,cL,stN,hbN⟩;(go_wp2_with fail);refine hK.out _ _ (trivial) (fun hHeld => ?_);clear hK K;(try simp only [Act.put,lA,lB,lC]);refine wpAnyH_done (by kernel_rfl) ?_ _;have HST:=hide stN;have HBN:=hide ((HB2.out.trans (vv.mono st.size)).trans hbN);clear hHeld vv stN hbN kL st x0 x1 x2 c0 c1 c2 c3;go_wp2
       go_roundw
       case rel=>exact ⟨k+1,aL,sL,cL,by omega,by go_num,HST.out,HBN.out⟩
       case measure=>simp [intOf]; omega
      refine AllReadyH.cons (o:=q429) rfl (fun K hK => ?_) ?_
      ·go_simp;refine hK.out _ _ (trivial) (fun hHeld => ?_);clear hK K;(try simp only [Act.put,lA,lB,lC]);refine kV 9 q430 (.bool true) ?_;refine kR 4 q428 (fun K hK => ?_);go_simp;refine hK.out _ _ (trivial) (fun hHeld => ?_);clear hK K;(try simp only [Act.put,lA,lB,lC]);refine kR 10 q431 (fun K hK => ?_);go_simp;refine (zdl ⟨ba,bn,bc,bs,some ⟨lb,lo,none⟩,ln,lc,ls,sa,sn,sc,ss⟩ k i x y true x.q x.a x.p _ (st.own.below vv).row HX.out HYI.out HWAY.out).mono ?_;rintro e wz ⟨rfl,hbz⟩;have vv:=zc vv hbz;have kL:=za kL hbz;rw [HSV.out];(go_wp2_with fail);refine hK.out _ _ (trivial) (fun hHeld => ?_);clear hK K;(try simp only [Act.put,lA,lB,lC]);refine kR 11 q432 (fun K hK => ?_);go_simp;refine (zb0 ⟨ba,bn,bc,bs,some ⟨lb,lo,none⟩,ln,lc,ls,sa,sn,sc,ss⟩ base X ⟨(k:Int),true,SV⟩ _ (sayTo (bs.map BV.B) ls b ss0 (k+1)) (st.later vv) (by omega) HS.out).mono ?_;rintro e wy ⟨rfl,aL,sL,cL,stN,hbN⟩;(go_wp2_with fail);refine hK.out _ _ (trivial) (fun hHeld => ?_);clear hK K;(try simp only [Act.put,lA,lB,lC]);refine wpAnyH_done (by kernel_rfl) ?_ _;have HST:=hide stN;have HBN:=hide ((HB2.out.trans (vv.mono st.size)).trans hbN);clear hHeld vv stN hbN kL st x0 x1 x2 c0 c1 c2 c3;go_wp2
       go_roundw
       case rel=>exact ⟨k+1,aL,sL,cL,by omega,by go_num,HST.out,HBN.out⟩
       case measure=>simp [intOf]; omega
      exact AllReadyH.nil
     ·have e2:(x.b == b)=false:=by simpa using hbb
      have HS:Hid (sayTo (bs.map BV.B) ls b ss0 (k+1)=ss):=hide (by rw [hnx,zix hx hab hbb]);have HST:=hide st;clear hpa hpb hx hnx hab hnab hbb hU st kL;go_wp2
      go_roundw
      case rel=>exact ⟨k+1,sa,sn,sc,by omega,by go_num,by rw [HS.out]; exact HST.out,HB2.out⟩
      case measure=>simp [intOf]; omega
  ·have hkn:k=ln:=by omega
   subst hkn;have HST:=hide st;have HB:=hide hB;clear st hB;go_wp2;refine bodyPost_end (v:=.tuple #[]) (by simp [results,Tryz.results71,go_sem, *]) rfl ?_;exact ⟨rfl,sa,sn,sc,HST.out,HB.out⟩

end Go.Proofs.YtpaneiaflfegoaaGreat
