/-
  Packed: ChgPort ChgRows ChgSetOf.
-/
import Derived.Test.YtcpdkcdfnpcemaaGreatPRK26
namespace Go.Proofs.YtcpdkcdfnpcemaaGreat
set_option maxRecDepth 100000
set_option maxHeartbeats 16000000
open Go.RowKit

section
open Go.RowKit

def portK (B:BR) (col port:Int):Option KD:=if (col=2∨col=4)∧0≤port∧port≤(B.ports.length:Int) - 1 then some (if col=2 then .cost port.toNat else .pvid port.toNat) else none

def zbL (w:World) (X n rn on:Nat) (B:BR) (e:Ending):Option KD→Prop
 | some kd=>∃(f1:Nat) (c1:Array Value) (f2:Nat) (c2:Array Value),e=.returned (.tuple #[.agg #[.int .i64 (kindN kd),.func (.func f1) #[] c1,.func (.func f2) #[] c2],.bool true])∧SetAt w X n rn on B kd f1 c1 f2 c2
 | none=>e=.returned (.tuple #[.agg #[.int .i64 0,.nilFunc,.nilFunc],.bool false])∨∃(f1:Nat) (c1:Array Value) (f2:Nat) (c2:Array Value),e=.returned (.tuple #[.agg #[.int .i64 2,.func (.func f1) #[] c1,.func (.func f2) #[] c2],.bool false])

section
variable {w W:World} {base X:Nat} {a:Option Addr} {n c:Nat} {fa:Option Addr} {fn fc:Nat} {ra:Option Addr} {rn rc:Nat} {oa:Option Addr} {on oc:Nat} {B:BR} {ua:Option Addr} {un uc:Nat}

theorem zhz (h:Tr w base X a n c fa fn fc ra rn rc oa on oc B ua un uc) (hm:Mid B) {tb pb wb lb hb:Nat} {port:Int} {hv:Bool} (ht:Cap w tb X) (hp:w.heap[pb]? = some (.cells #[.int .i64 port] 3)) (hN:NumAt w wb lb hb 262 #[.pointer (some ⟨tb,0,none⟩),.pointer (some ⟨pb,0,none⟩)] (1) 1000) (hhv:hv=(decide (0≤port) && decide (port≤(n:Int) - 1))) :
  zbL w X n rn on B (.returned (.tuple #[.agg #[.int .i64 2,.func (.func 278) #[] #[.pointer (some ⟨lb,0,none⟩),.pointer (some ⟨hb,0,none⟩)],.func (.func 279) #[] #[.pointer (some ⟨wb,0,none⟩)]],.bool hv])) (portK B 2 port):=by
 have hl:=(zE (F:=ptF) h.own.ports).size;have hlo:=(zE (F:=intF) (zb2 h.own.v.own)).size;have hov:=hm.own;by_cases hin:0≤port∧port≤(n:Int) - 1
 ·have e1:hv=true:=by rw [hhv,decide_eq_true hin.1,decide_eq_true hin.2]; rfl
  have e2:portK B 2 port=some (.cost port.toNat):=by
   unfold portK;rw [if_pos ⟨by omega,hin.1,by omega⟩]
   rfl
  obtain ⟨p,rfl⟩:∃p:Nat,port=(p:Int):=⟨port.toNat,by omega⟩;rw [e1,e2];rw [Int.toNat_natCast];exact ⟨_,_,_,_,rfl,tb,pb,wb,lb,hb,rfl,rfl,rfl,rfl,ht,hp,by omega,hN⟩
 ·have e1:hv=false:=by
   rw [hhv];cases h1:decide (0≤port)
   ·rfl
   ·cases h2:decide (port≤(n:Int) - 1)
    ·rfl
    ·exact absurd ⟨of_decide_eq_true h1,of_decide_eq_true h2⟩ hin
  have e2:portK B 2 port=none:=by
   unfold portK;rw [if_neg (by rintro ⟨-,h1,h2⟩; exact hin ⟨h1,by omega⟩)]
  rw [e1,e2];exact .inr ⟨_,_,_,_,rfl⟩

theorem zhA (h:Tr w base X a n c fa fn fc ra rn rc oa on oc B ua un uc) (hm:Mid B) {tb pb wb lb hb:Nat} {port:Int} {hv:Bool} (ht:Cap w tb X) (hp:w.heap[pb]? = some (.cells #[.int .i64 port] 3)) (hN:NumAt w wb lb hb 263 #[.pointer (some ⟨tb,0,none⟩),.pointer (some ⟨pb,0,none⟩)] (-9223372036854775808) 9223372036854775807) (hhv:hv=(decide (0≤port) && decide (port≤(n:Int) - 1))) :
  zbL w X n rn on B (.returned (.tuple #[.agg #[.int .i64 2,.func (.func 278) #[] #[.pointer (some ⟨lb,0,none⟩),.pointer (some ⟨hb,0,none⟩)],.func (.func 279) #[] #[.pointer (some ⟨wb,0,none⟩)]],.bool hv])) (portK B 4 port):=by
 have hl:=(zE (F:=ptF) h.own.ports).size;have hlo:=(zE (F:=intF) (zb2 h.own.v.own)).size;have hov:=hm.own;by_cases hin:0≤port∧port≤(n:Int) - 1
 ·have e1:hv=true:=by rw [hhv,decide_eq_true hin.1,decide_eq_true hin.2]; rfl
  have e2:portK B 4 port=some (.pvid port.toNat):=by
   unfold portK;rw [if_pos ⟨by omega,hin.1,by omega⟩]
   rfl
  obtain ⟨p,rfl⟩:∃p:Nat,port=(p:Int):=⟨port.toNat,by omega⟩;rw [e1,e2];rw [Int.toNat_natCast];exact ⟨_,_,_,_,rfl,tb,pb,wb,lb,hb,rfl,rfl,rfl,rfl,ht,hp,by omega,hN⟩
 ·have e1:hv=false:=by
   rw [hhv];cases h1:decide (0≤port)
   ·rfl
   ·cases h2:decide (port≤(n:Int) - 1)
    ·rfl
    ·exact absurd ⟨of_decide_eq_true h1,of_decide_eq_true h2⟩ hin
  have e2:portK B 4 port=none:=by
   unfold portK;rw [if_neg (by rintro ⟨-,h1,h2⟩; exact hin ⟨h1,by omega⟩)]
  rw [e1,e2];exact .inr ⟨_,_,_,_,rfl⟩

theorem zgC (h:Tr w base X a n c fa fn fc ra rn rc oa on oc B ua un uc) (hm:Mid B) (col port:Int) :
  Calls Tryz.prog 215 #[.pointer (some ⟨X,0,none⟩),.int .i64 col,.int .i64 port] w fun e w'=>zbL w' X n rn on B e (portK B col port)∧Below w.heap.size w w':=by
 have hl:=(zE (F:=ptF) h.own.ports).size;have hpn:=hm.pn;have HN:Hid (n≤137438953472):=hide (by omega);obtain ⟨hv,hhv⟩:∃hv,hv=(decide (0≤port) && decide (port≤(n:Int) - 1)):=⟨_,rfl⟩;have HHV:=hide hhv;have HMD:=hide hm;generalize hw1:w.alloc (Obj.cells #[.pointer (some ⟨X,0,none⟩)] 96)=w1;have b1:=zb hw1;have k1:Cap w1 w.heap.size X:=by rw [← hw1]; exact zv _ _
 generalize hw2:w1.alloc (Obj.cells #[.int .i64 port] 3)=w2;have b2:=zb hw2;have k2:=zk hw2;generalize hw3:w2.alloc (Obj.cells #[.int .i64 0,.nilFunc,.nilFunc] 199)=w3;have b3:=zb hw3;have k3:=zk hw3;have b03:=zd (zd b1 b2) b3;have HS:Hid (∀W,Below w3.heap.size w3 W→(zcc W w.heap.size 0 (.pointer (some ⟨X,0,none⟩))∧zcc W w1.heap.size 0 (.int .i64 port)∧zcc W X 0 (.slice a n c))):=hide (fun W hW=>⟨cell1 ((k1.below (zd b2 b3)).below hW),cell1 (ze (ze k2 b3) hW),(zaD (ze h.box (zd b03 hW))).1⟩);have HSB:Hid (w.heap.size≤w2.heap.size):=hide (zd b1 b2).size;have HB3:=hide b03;have HK3:=hide k3;have HT:=hide h;have HC:=hide (k1.below (zd b2 b3));have HP:=hide (ze k2 b3);have vv:Below w3.heap.size w3 w3.drew:=zr (Below.refl _ _);clear b1 b2 b3 b03 k1 k2 h hhv hl hpn hm;by_cases hc2:col=2
 ·subst hc2;clear k3;go_enter Tryz.func215,Tryz.ntmps215;(go_upto_region 3 with fail);(try rw [hw3]);clear hw1 hw2 hw3;refine wp_region_held_drew (S:=(fun W=>zcc W w.heap.size 0 (.pointer (some ⟨X,0,none⟩))∧zcc W w1.heap.size 0 (.int .i64 port)∧zcc W X 0 (.slice a n c))) (by kernel_rfl) (HS.out _ vv) (fun hHeld => ?_);refine kK 0 ?_;refine kK 2 ?_;refine kK 3 ?_;refine kK 4 ?_;refine kK 5 ?_;refine kK 6 ?_;refine kK 7 ?_;refine kR 1 fun K hK => ?_
  go_simp;clear hHeld;refine (zcN 262 #[.pointer (some ⟨w.heap.size,0,none⟩),.pointer (some ⟨w1.heap.size,0,none⟩)] (1) 1000 _).mono ?_;rintro e z1 ⟨wb,lb,hb,rfl,q1,q2,q3,hz1⟩;have vv:=zd vv hz1;have NA:NumAt z1 wb lb hb 262 #[.pointer (some ⟨w.heap.size,0,none⟩),.pointer (some ⟨w1.heap.size,0,none⟩)] (1) 1000:=⟨q1,q2,q3⟩;clear q1 q2 q3 hz1;(go_wp2_with fail);refine kO hK (HS.out _ vv) fun hHeld => ?_
  clear hK K;refine kR 8 fun K hK => ?_
  go_simp;clear hHeld;refine (zdD a n c port _ HN.out).mono ?_;rintro e z2 ⟨rfl,ez⟩;obtain rfl:=ez.symm;rw [← HHV.out];(go_wp2_with fail);refine kO hK (HS.out _ vv) fun hHeld => ?_
  clear hK K;refine kR 9 fun K hK => ?_
  have ks:=ze HK3.out vv;obtain ⟨q0,q1,q2⟩:=zag ks;have f0:=zm ks 0;have f1:=zm ks 1;have f2:=zm ks 2;go_simp;clear q0 q1 q2 f0 f1 f2;have vb:=zd HB3.out vv;refine zbj (K:=K _) ks vb HSB.out _ _ _ (fun wq kq vq eq => ?_);have HTQ:Hid (Tr wq base X a n c fa fn fc ra rn rc oa on oc B ua un uc):=hide (by rw [eq]; exact (HT.out.below vb).stored3 ks _ _ _);have HCQ:Hid (Cap wq w.heap.size X):=hide (by rw [eq]; exact kept3 (show z1.heap[w.heap.size]? = _ from HC.out.below vv) (zD (show z1.heap[w.heap.size]? = _ from HC.out.below vv) ks (by decide)) _ _ _);have HPQ:Hid (wq.heap[w1.heap.size]? = some (.cells #[.int .i64 port] 3)):=hide (by rw [eq]; exact kept3 (ze HP.out vv) (zD (ze HP.out vv) ks (by decide)) _ _ _);have HNQ:Hid (NumAt wq wb lb hb _ _ _ _):=hide (by rw [eq]; exact ⟨kept3 NA.f (zD NA.f ks (by decide)) _ _ _,kept3 NA.l (zD NA.l ks (by decide)) _ _ _,kept3 NA.h (zD NA.h ks (by decide)) _ _ _⟩);have HSL:Hid (wq.cell? ⟨w.heap.size,0,none⟩=some (.pointer (some ⟨X,0,none⟩))∧wq.cell? ⟨w1.heap.size,0,none⟩=some (.int .i64 port)∧wq.cell? ⟨X,0,none⟩=some (.slice a n c)):=hide ⟨cell1 HCQ.out,cell1 HPQ.out,(zaD HTQ.out.box).1⟩;have HVQ:=hide vq;clear eq NA vb ks vq;refine kO hK (HSL.out) fun hHeld => ?_
  clear hK K;refine kK 10 ?_;refine wpAnyH_done (by kernel_rfl) ?_ _;obtain ⟨y0,y1,y2⟩:=zag kq;clear hHeld vv kq;go_wp2;exact bodyPost_ret (v:=.tuple #[.agg #[.int .i64 2,.func (.func 278) #[] #[.pointer (some ⟨lb,0,none⟩),.pointer (some ⟨hb,0,none⟩)],.func (.func 279) #[] #[.pointer (some ⟨wb,0,none⟩)]],.bool hv]) (by simp [results,Tryz.results215,go_sem, *]) rfl ⟨zhz HTQ.out HMD.out HCQ.out HPQ.out HNQ.out HHV.out,HVQ.out⟩
 ·by_cases hc4:col=4
  ·subst hc4;clear k3;go_enter Tryz.func215,Tryz.ntmps215;(go_upto_region 5 with fail);(try rw [hw3]);clear hw1 hw2 hw3 hc2;refine wp_region_held_drew (S:=(fun W=>zcc W w.heap.size 0 (.pointer (some ⟨X,0,none⟩))∧zcc W w1.heap.size 0 (.int .i64 port)∧zcc W X 0 (.slice a n c))) (by kernel_rfl) (HS.out _ vv) (fun hHeld => ?_);refine kK 0 ?_;refine kK 2 ?_;refine kK 3 ?_;refine kK 4 ?_;refine kK 5 ?_;refine kK 6 ?_;refine kK 7 ?_;refine kR 1 fun K hK => ?_
   go_simp;clear hHeld;refine (zcN 263 #[.pointer (some ⟨w.heap.size,0,none⟩),.pointer (some ⟨w1.heap.size,0,none⟩)] (-9223372036854775808) 9223372036854775807 _).mono ?_;rintro e z1 ⟨wb,lb,hb,rfl,q1,q2,q3,hz1⟩;have vv:=zd vv hz1;have NA:NumAt z1 wb lb hb 263 #[.pointer (some ⟨w.heap.size,0,none⟩),.pointer (some ⟨w1.heap.size,0,none⟩)] (-9223372036854775808) 9223372036854775807:=⟨q1,q2,q3⟩;clear q1 q2 q3 hz1;(go_wp2_with fail);refine kO hK (HS.out _ vv) fun hHeld => ?_
   clear hK K;refine kR 8 fun K hK => ?_
   go_simp;clear hHeld;refine (zdD a n c port _ HN.out).mono ?_;rintro e z2 ⟨rfl,ez⟩;obtain rfl:=ez.symm;rw [← HHV.out];(go_wp2_with fail);refine kO hK (HS.out _ vv) fun hHeld => ?_
   clear hK K;refine kR 9 fun K hK => ?_
   have ks:=ze HK3.out vv;obtain ⟨q0,q1,q2⟩:=zag ks;have f0:=zm ks 0;have f1:=zm ks 1;have f2:=zm ks 2;go_simp;clear q0 q1 q2 f0 f1 f2;have vb:=zd HB3.out vv;refine zbj (K:=K _) ks vb HSB.out _ _ _ (fun wq kq vq eq => ?_);have HTQ:Hid (Tr wq base X a n c fa fn fc ra rn rc oa on oc B ua un uc):=hide (by rw [eq]; exact (HT.out.below vb).stored3 ks _ _ _);have HCQ:Hid (Cap wq w.heap.size X):=hide (by rw [eq]; exact kept3 (show z1.heap[w.heap.size]? = _ from HC.out.below vv) (zD (show z1.heap[w.heap.size]? = _ from HC.out.below vv) ks (by decide)) _ _ _);have HPQ:Hid (wq.heap[w1.heap.size]? = some (.cells #[.int .i64 port] 3)):=hide (by rw [eq]; exact kept3 (ze HP.out vv) (zD (ze HP.out vv) ks (by decide)) _ _ _);have HNQ:Hid (NumAt wq wb lb hb _ _ _ _):=hide (by rw [eq]; exact ⟨kept3 NA.f (zD NA.f ks (by decide)) _ _ _,kept3 NA.l (zD NA.l ks (by decide)) _ _ _,kept3 NA.h (zD NA.h ks (by decide)) _ _ _⟩);have HSL:Hid (wq.cell? ⟨w.heap.size,0,none⟩=some (.pointer (some ⟨X,0,none⟩))∧wq.cell? ⟨w1.heap.size,0,none⟩=some (.int .i64 port)∧wq.cell? ⟨X,0,none⟩=some (.slice a n c)):=hide ⟨cell1 HCQ.out,cell1 HPQ.out,(zaD HTQ.out.box).1⟩;have HVQ:=hide vq;clear eq NA vb ks vq;refine kO hK (HSL.out) fun hHeld => ?_
   clear hK K;refine kK 10 ?_;refine wpAnyH_done (by kernel_rfl) ?_ _;obtain ⟨y0,y1,y2⟩:=zag kq;clear hHeld vv kq;go_wp2;exact bodyPost_ret (v:=.tuple #[.agg #[.int .i64 2,.func (.func 278) #[] #[.pointer (some ⟨lb,0,none⟩),.pointer (some ⟨hb,0,none⟩)],.func (.func 279) #[] #[.pointer (some ⟨wb,0,none⟩)]],.bool hv]) (by simp [results,Tryz.results215,go_sem, *]) rfl ⟨zhA HTQ.out HMD.out HCQ.out HPQ.out HNQ.out HHV.out,HVQ.out⟩
  ·have HK:Hid (portK B col port=none):=hide (by unfold portK; rw [if_neg (by rintro ⟨h1 | h1,-⟩; exact hc2 h1; exact hc4 h1)]);obtain ⟨y0,y1,y2⟩:=zag k3;have f0:=zm k3 0;have f1:=zm k3 1;have f2:=zm k3 2;clear vv k3;go_enter Tryz.func215,Tryz.ntmps215;go_wp2;exact bodyPost_ret (v:=.tuple #[.agg #[.int .i64 0,.nilFunc,.nilFunc],.bool false]) (by simp [results,Tryz.results215,go_sem, *]) rfl ⟨by rw [HK.out]; exact .inl rfl,zg (zg (zg HB3.out HSB.out 0 _) HSB.out 1 _) HSB.out 2 _⟩
end

end

section
open Go.RowKit

def rowK (B:BR) (col id:Int):Option KD:=if col=1 then (if 1≤id∧id≤99 then some (.row id) else none) else if col=2∨col=3 then (zI B.v.rows id).map (fun k=>if col=2 then .mem k else .bare k) else none

section
variable {w W:World} {base X:Nat} {a:Option Addr} {n c:Nat} {fa:Option Addr} {fn fc:Nat} {ra:Option Addr} {rn rc:Nat} {oa:Option Addr} {on oc:Nat} {B:BR} {ua:Option Addr} {un uc:Nat}

theorem ziG {tb ib eb mb:Nat} {id:Int} (h1:w.heap[eb]? = some (.cells #[.bool (zI B.v.rows id).isSome] 4)) (h2:w.heap[mb]? = some (.cells #[.bool (decide ((rn:Int) < 6))] 4)) (ht:Cap w tb X) (hi:w.heap[ib]? = some (.cells #[.int .i64 id] 3)) :
  zbL w X n rn on B (.returned (.tuple #[.agg #[.int .i64 2,.func (.func 281) #[] #[.pointer (some ⟨eb,0,none⟩),.pointer (some ⟨mb,0,none⟩)],.func (.func 282) #[] #[.pointer (some ⟨tb,0,none⟩),.pointer (some ⟨ib,0,none⟩)]],.bool (decide (1≤id) && decide (id≤99))])) (rowK B 1 id):=by
 by_cases hin:1≤id∧id≤99
 ·have e2:rowK B 1 id=some (.row id):=by unfold rowK; rw [if_pos rfl,if_pos hin]
  rw [decide_eq_true hin.1,decide_eq_true hin.2,e2];exact ⟨_,_,_,_,rfl,tb,ib,eb,mb,rfl,rfl,rfl,rfl,ht,hi,h1,h2⟩
 ·have e1:(decide (1≤id) && decide (id≤99))=false:=by
   cases h1:decide (1≤id)
   ·rfl
   ·cases h2:decide (id≤99)
    ·rfl
    ·exact absurd ⟨of_decide_eq_true h1,of_decide_eq_true h2⟩ hin
  have e2:rowK B 1 id=none:=by unfold rowK; rw [if_pos rfl,if_neg hin]
  rw [e1,e2];exact .inr ⟨_,_,_,_,rfl⟩

theorem ziH (h:Tr w base X a n c fa fn fc ra rn rc oa on oc B ua un uc) {tb pb wb lb hb:Nat} {id ri al:Int} {rt:Bool} (ht:Cap w tb X) (hp:w.heap[pb]? = some (.cells #[.int .i64 ri] 3)) (hN:NumAt w wb lb hb 265 #[.pointer (some ⟨tb,0,none⟩),.pointer (some ⟨pb,0,none⟩)] 0 al) (hri:ri=rowAt B.v.rows id) (hal:al=allOf n) (hrt:rt=(zI B.v.rows id).isSome) :
  zbL w X n rn on B (.returned (.tuple #[.agg #[.int .i64 2,.func (.func 278) #[] #[.pointer (some ⟨lb,0,none⟩),.pointer (some ⟨hb,0,none⟩)],.func (.func 279) #[] #[.pointer (some ⟨wb,0,none⟩)]],.bool rt])) (rowK B 2 id):=by
 have hlr:=(zE (F:=vrowF) h.own.v.rows).size;cases hk:zI B.v.rows id with
 | none =>
  rw [hk] at hrt;have e2:rowK B 2 id=none:=by simp [rowK,hk]
  rw [hrt,e2];exact .inr ⟨_,_,_,_,rfl⟩
 | some k =>
  rw [hk] at hrt;have e2:rowK B 2 id=some (.mem k):=by simp [rowK,hk]
  have e3:ri=(k:Int):=by rw [hri]; unfold rowAt; rw [hk]
  have hkl:=zfg hk;rw [hrt,e2];rw [e3] at hp;rw [hal] at hN;exact ⟨_,_,_,_,rfl,tb,pb,wb,lb,hb,rfl,rfl,rfl,rfl,ht,hp,by omega,hN⟩

theorem ziI (h:Tr w base X a n c fa fn fc ra rn rc oa on oc B ua un uc) {tb pb wb lb hb:Nat} {id ri al:Int} {rt:Bool} (ht:Cap w tb X) (hp:w.heap[pb]? = some (.cells #[.int .i64 ri] 3)) (hN:NumAt w wb lb hb 266 #[.pointer (some ⟨tb,0,none⟩),.pointer (some ⟨pb,0,none⟩)] 0 al) (hri:ri=rowAt B.v.rows id) (hal:al=allOf n) (hrt:rt=(zI B.v.rows id).isSome) :
  zbL w X n rn on B (.returned (.tuple #[.agg #[.int .i64 2,.func (.func 278) #[] #[.pointer (some ⟨lb,0,none⟩),.pointer (some ⟨hb,0,none⟩)],.func (.func 279) #[] #[.pointer (some ⟨wb,0,none⟩)]],.bool rt])) (rowK B 3 id):=by
 have hlr:=(zE (F:=vrowF) h.own.v.rows).size;cases hk:zI B.v.rows id with
 | none =>
  rw [hk] at hrt;have e2:rowK B 3 id=none:=by simp [rowK,hk]
  rw [hrt,e2];exact .inr ⟨_,_,_,_,rfl⟩
 | some k =>
  rw [hk] at hrt;have e2:rowK B 3 id=some (.bare k):=by simp [rowK,hk]
  have e3:ri=(k:Int):=by rw [hri]; unfold rowAt; rw [hk]
  have hkl:=zfg hk;rw [hrt,e2];rw [e3] at hp;rw [hal] at hN;exact ⟨_,_,_,_,rfl,tb,pb,wb,lb,hb,rfl,rfl,rfl,rfl,ht,hp,by omega,hN⟩

theorem zhM (h:Tr w base X a n c fa fn fc ra rn rc oa on oc B ua un uc) (hm:Mid B) (col id:Int) :
  Calls Tryz.prog 216 #[.pointer (some ⟨X,0,none⟩),.int .i64 col,.int .i64 id] w fun e w'=>zbL w' X n rn on B e (rowK B col id)∧Below w.heap.size w w':=by
 have hl:=(zE (F:=ptF) h.own.ports).size;have hpn:=hm.pn;have HN1:Hid (1≤n):=hide (by omega);have HN6:Hid (n≤6):=hide (by omega);have htop:(n:Int)≤6:=by omega
 have HMD:=hide hm;have HR:=hide (zE (F:=vrowF) h.own.v.rows);obtain ⟨ri,hri⟩:∃ri,ri=rowAt B.v.rows id:=⟨_,rfl⟩;obtain ⟨al,hal⟩:∃al,al=allOf n:=⟨_,rfl⟩;obtain ⟨rt,hrt⟩:∃rt,rt=(zI B.v.rows id).isSome:=⟨_,rfl⟩;have hge:(0≤ri)↔(rt=true):=by rw [hri,hrt]; exact zdR
 have HRI:=hide hri;have HAL:=hide hal;have HRT:=hide hrt;clear hri hal hrt;generalize hw1:w.alloc (Obj.cells #[.pointer (some ⟨X,0,none⟩)] 96)=w1;have b1:=zb hw1;have k1:Cap w1 w.heap.size X:=by rw [← hw1]; exact zv _ _
 generalize hw2:w1.alloc (Obj.cells #[.int .i64 0,.nilFunc,.nilFunc] 199)=w2;have b2:=zb hw2;have k2:=zk hw2;have b02:=zd b1 b2;have HS:Hid (∀W,Below w2.heap.size w2 W→(zcc W w.heap.size 0 (.pointer (some ⟨X,0,none⟩))∧zcc W X 0 (.slice a n c)∧zcc W X 5 (.slice ra rn rc)∧zcc W X 6 (.slice oa on oc))):=hide (fun W hW=>by
  obtain ⟨x0,-,-,-,-,x5,x6,-⟩:=zaD (ze h.box (zd b02 hW));exact ⟨cell1 ((k1.below b2).below hW),x0,x5,x6⟩)
 have HSB:Hid (w.heap.size≤w1.heap.size):=hide b1.size;have HB2:=hide b02;have HK2:=hide k2;have HT:=hide h;have HC:=hide (k1.below b2);have vv:Below w2.heap.size w2 w2.drew:=zr (Below.refl _ _);clear b1 b2 b02 k1 k2 h hl hpn hm;by_cases hc1:col=1
 ·subst hc1;go_enter Tryz.func216,Tryz.ntmps216;(go_upto_region 1 with fail);(try rw [hw2]);clear hw1 hw2;refine wp_region_held_drew (S:=(fun W=>zcc W w.heap.size 0 (.pointer (some ⟨X,0,none⟩))∧zcc W X 0 (.slice a n c)∧zcc W X 5 (.slice ra rn rc)∧zcc W X 6 (.slice oa on oc))) (by kernel_rfl) (HS.out _ vv) (fun hHeld => ?_)
  repeat' first
  |
   with_reducible refine kLa ?_
   first
   |
    refine kLf 0 ?_;refine kK 0 ?_
   |
    refine kLf 1 ?_;refine kK 1 ?_
   |
    refine kLf 2 ?_;refine kK 2 ?_
   |
    refine kLf 3 ?_;refine kK 3 ?_
   |
    refine kLf 4 ?_;refine kK 4 ?_
   |
    refine kLf 5 ?_;refine kK 5 ?_
   |
    refine kLf 6 ?_;refine kK 6 ?_
   |
    refine kLf 8 ?_;refine kK 8 ?_
   |
    refine kLf 9 ?_;refine kK 9 ?_
   |
    refine kLf 10 ?_;refine kK 10 ?_
   |
    refine kLf 11 ?_;refine kK 11 ?_
   |
    refine kLf 12 ?_;refine kK 12 ?_
   |
    refine kLf 13 ?_;refine kK 13 ?_
   |
    refine kLf 17 ?_;refine kK 17 ?_
   |
    refine kLp [7,15] ?_
   |
    refine kLp [14,15] ?_
   |
    refine kLp [15] ?_
   |
    refine kLp [16] ?_
   |
    refine kLp [14] ?_
   |
    refine kLp [7] ?_
   |
    refine wpAnyH_done (by kernel_rfl) ?_ _;have HPQ:=hide kX;have HV:=hide vv;have HBQ:=hide (zd HB2.out vv);have HKS:=hide (ze HK2.out vv);clear hHeld vv kX;have ks:=HKS.out;obtain ⟨s0,-⟩:=HS.out _ HV.out;(go_wp2_with fail);refine (zfW (HT.out.below HBQ.out) id).mono ?_;rintro e z5 ⟨tb2,ib,eb,mb,rfl,q1,q2,q3,q4,hz5⟩;have ks5:=ze ks hz5;obtain ⟨y0,y1,y2⟩:=zag ks5;have f0:=zm ks5 0;have f1:=zm ks5 1;have f2:=zm ks5 2;clear s0;(go_wp2_with fail);refine (zz id 1 99 _).mono ?_;rintro e z6 ⟨rfl,ez⟩;obtain rfl:=ez.symm;have HTQ:=hide (((HT.out.below HBQ.out).below hz5).stored3 ks5 (.int .i64 2) (.func (.func 281) #[] #[.pointer (some ⟨eb,0,none⟩),.pointer (some ⟨mb,0,none⟩)]) (.func (.func 282) #[] #[.pointer (some ⟨tb2,0,none⟩),.pointer (some ⟨ib,0,none⟩)]));have Q1:=hide (kept3 q1 (zD q1 ks5 (by decide)) (.int .i64 2) (.func (.func 281) #[] #[.pointer (some ⟨eb,0,none⟩),.pointer (some ⟨mb,0,none⟩)]) (.func (.func 282) #[] #[.pointer (some ⟨tb2,0,none⟩),.pointer (some ⟨ib,0,none⟩)]));have Q2:=hide (kept3 q2 (zD q2 ks5 (by decide)) (.int .i64 2) (.func (.func 281) #[] #[.pointer (some ⟨eb,0,none⟩),.pointer (some ⟨mb,0,none⟩)]) (.func (.func 282) #[] #[.pointer (some ⟨tb2,0,none⟩),.pointer (some ⟨ib,0,none⟩)]));have Q3:=hide (kept3 (show z5.heap[tb2]? = _ from q3) (zD (show z5.heap[tb2]? = _ from q3) ks5 (by decide)) (.int .i64 2) (.func (.func 281) #[] #[.pointer (some ⟨eb,0,none⟩),.pointer (some ⟨mb,0,none⟩)]) (.func (.func 282) #[] #[.pointer (some ⟨tb2,0,none⟩),.pointer (some ⟨ib,0,none⟩)]));have Q4:=hide (kept3 q4 (zD q4 ks5 (by decide)) (.int .i64 2) (.func (.func 281) #[] #[.pointer (some ⟨eb,0,none⟩),.pointer (some ⟨mb,0,none⟩)]) (.func (.func 282) #[] #[.pointer (some ⟨tb2,0,none⟩),.pointer (some ⟨ib,0,none⟩)]));have HBE:=hide (zg (zg (zg (zd HBQ.out hz5) HSB.out 0 (.int .i64 2)) HSB.out 1 (.func (.func 281) #[] #[.pointer (some ⟨eb,0,none⟩),.pointer (some ⟨mb,0,none⟩)])) HSB.out 2 (.func (.func 282) #[] #[.pointer (some ⟨tb2,0,none⟩),.pointer (some ⟨ib,0,none⟩)]));clear q1 q2 q3 q4 hz5 ks ks5;go_wp2;exact bodyPost_ret (v:=.tuple #[.agg #[.int .i64 2,.func (.func 281) #[] #[.pointer (some ⟨eb,0,none⟩),.pointer (some ⟨mb,0,none⟩)],.func (.func 282) #[] #[.pointer (some ⟨tb2,0,none⟩),.pointer (some ⟨ib,0,none⟩)]],.bool (decide (1≤id) && decide (id≤99))]) (by simp [results,Tryz.results216,go_sem, *]) rfl ⟨ziG Q1.out Q2.out Q3.out Q4.out,HBE.out⟩
  |
   exact AllReadyH.nil
  |
   refine kLc 7 (fun K hK => ?_) ?_;go_simp;clear hHeld;refine (zaE ra rn rc B.v.rows oa on oc id _ (HR.out.below (zd HB2.out vv))).mono ?_;rintro e z1 ⟨rfl,hz1⟩;rw [← HRI.out];have vv:=zd vv hz1;(try have kX:=ze kX hz1);clear hz1;(go_wp2_with fail);refine kO hK (HS.out _ vv) fun hHeld => ?_
   clear hK K
  |
   refine kLc 14 (fun K hK => ?_) ?_;go_simp;clear hHeld;refine (za7 n HN1.out HN6.out _).mono ?_;rintro e z2 ⟨rfl,ez⟩;obtain rfl:=ez.symm;rw [← HAL.out];(go_wp2_with fail);refine kO hK (HS.out _ vv) fun hHeld => ?_
   clear hK K
  |
   refine kLc 15 (fun K hK => ?_) ?_;go_simp
   first
   | refine zac (K:=K _) (fun wx kX hbx => ?_)
   | refine zR (K:=K _) (fun wx kX hbx => ?_)
   obtain ⟨PB,hXe,hXl⟩:=zc2 vv;have HPL:=hide hXl;have kX:wx.heap[PB]? = some (Obj.cells #[.int .i64 0] 3):=by rw [hXe]; exact kX
   first
   | rw [← hXe]
   | rw [← (show PB=w2.heap.size from hXe)]
   clear hXe hXl;have vv:=zd vv hbx;clear hbx;refine kO hK (HS.out _ vv) fun hHeld => ?_
   clear hK K
  |
   refine kLc 16 (fun K hK => ?_) ?_;have q0:=cell1 kX;have fq:=zm kX 0;go_simp;clear q0 fq;refine zbV (K:=K _) kX vv HPL.out _ (fun wq kX vv => ?_);refine kO hK (HS.out _ vv) fun hHeld => ?_
   clear hK K
 ·by_cases hc2:col=2
  ·subst hc2;go_enter Tryz.func216,Tryz.ntmps216;(go_upto_region 1 with fail);(try rw [hw2]);clear hw1 hw2 hc1;refine wp_region_held_drew (S:=(fun W=>zcc W w.heap.size 0 (.pointer (some ⟨X,0,none⟩))∧zcc W X 0 (.slice a n c)∧zcc W X 5 (.slice ra rn rc)∧zcc W X 6 (.slice oa on oc))) (by kernel_rfl) (HS.out _ vv) (fun hHeld => ?_)
   repeat' first
   |
    with_reducible refine kLa ?_
    first
    |
     refine kLf 0 ?_;refine kK 0 ?_
    |
     refine kLf 1 ?_;refine kK 1 ?_
    |
     refine kLf 2 ?_;refine kK 2 ?_
    |
     refine kLf 3 ?_;refine kK 3 ?_
    |
     refine kLf 4 ?_;refine kK 4 ?_
    |
     refine kLf 5 ?_;refine kK 5 ?_
    |
     refine kLf 6 ?_;refine kK 6 ?_
    |
     refine kLf 8 ?_;refine kK 8 ?_
    |
     refine kLf 9 ?_;refine kK 9 ?_
    |
     refine kLf 10 ?_;refine kK 10 ?_
    |
     refine kLf 11 ?_;refine kK 11 ?_
    |
     refine kLf 12 ?_;refine kK 12 ?_
    |
     refine kLf 13 ?_;refine kK 13 ?_
    |
     refine kLf 17 ?_;refine kK 17 ?_
    |
     refine kLp [7,15] ?_
    |
     refine kLp [14,15] ?_
    |
     refine kLp [15] ?_
    |
     refine kLp [16] ?_
    |
     refine kLp [14] ?_
    |
     refine kLp [7] ?_
    |
     refine wpAnyH_done (by kernel_rfl) ?_ _;have HPQ:=hide kX;have HV:=hide vv;have HBQ:=hide (zd HB2.out vv);have HKS:=hide (ze HK2.out vv);clear hHeld vv kX;have cp:=cell1 HPQ.out;(go_upto_region 6 with fail);clear cp;have vw:Below wq.heap.size wq wq.drew:=zr (Below.refl _ _);refine wp_region_held_drew (S:=(fun W=>zcc W PB 0 (.int .i64 ri))) (by kernel_rfl) (cell1 (ze HPQ.out vw)) (fun hHeld => ?_);refine kK 0 ?_;refine kK 1 ?_;refine kK 3 ?_;refine kK 4 ?_;refine kR 2 fun K hK => ?_
     go_simp;clear hHeld;refine (zcN 265 #[.pointer (some ⟨w.heap.size,0,none⟩),.pointer (some ⟨PB,0,none⟩)] 0 al _).mono ?_;rintro e z1 ⟨wb,lb,hb,rfl,q1,q2,q3,hz1⟩;have vw:=zd vw hz1;have NA:NumAt z1 wb lb hb 265 #[.pointer (some ⟨w.heap.size,0,none⟩),.pointer (some ⟨PB,0,none⟩)] 0 al:=⟨q1,q2,q3⟩;clear q1 q2 q3 hz1;(go_wp2_with fail);refine kO hK (cell1 (ze HPQ.out vw)) fun hHeld => ?_
     clear hK K;refine kR 5 fun K hK => ?_
     have ks:=ze HKS.out vw;obtain ⟨q0,q1,q2⟩:=zag ks;have f0:=zm ks 0;have f1:=zm ks 1;have f2:=zm ks 2;go_simp;clear q0 q1 q2 f0 f1 f2;have vb:=zd HBQ.out vw;refine zbj (K:=K _) ks vb HSB.out _ _ _ (fun wr kq vq eq => ?_);have HTQ:Hid (Tr wr base X a n c fa fn fc ra rn rc oa on oc B ua un uc):=hide (by rw [eq]; exact (HT.out.below vb).stored3 ks _ _ _);have HCQ:Hid (Cap wr w.heap.size X):=hide (by rw [eq]; exact kept3 (show z1.heap[w.heap.size]? = _ from (HC.out.below HV.out).below vw) (zD (show z1.heap[w.heap.size]? = _ from (HC.out.below HV.out).below vw) ks (by decide)) _ _ _);have HPR:Hid (wr.heap[PB]? = some (.cells #[.int .i64 ri] 3)):=hide (by rw [eq]; exact kept3 (ze HPQ.out vw) (zD (ze HPQ.out vw) ks (by decide)) _ _ _);have HNQ:Hid (NumAt wr wb lb hb _ _ _ _):=hide (by rw [eq]; exact ⟨kept3 NA.f (zD NA.f ks (by decide)) _ _ _,kept3 NA.l (zD NA.l ks (by decide)) _ _ _,kept3 NA.h (zD NA.h ks (by decide)) _ _ _⟩);have HVQ:=hide vq;clear eq NA vb ks vq;refine kO hK (cell1 HPR.out) fun hHeld => ?_
     clear hK K;refine kK 6 ?_;refine wpAnyH_done (by kernel_rfl) ?_ _;obtain ⟨y0,y1,y2⟩:=zag kq;clear hHeld vw kq;go_wp2;exact bodyPost_ret (v:=.tuple #[.agg #[.int .i64 2,.func (.func 278) #[] #[.pointer (some ⟨lb,0,none⟩),.pointer (some ⟨hb,0,none⟩)],.func (.func 279) #[] #[.pointer (some ⟨wb,0,none⟩)]],.bool rt]) (by simp [results,Tryz.results216,go_sem, *]) rfl ⟨ziH HTQ.out HCQ.out HPR.out HNQ.out HRI.out HAL.out HRT.out,HVQ.out⟩
   |
    exact AllReadyH.nil
   |
    refine kLc 7 (fun K hK => ?_) ?_;go_simp;clear hHeld;refine (zaE ra rn rc B.v.rows oa on oc id _ (HR.out.below (zd HB2.out vv))).mono ?_;rintro e z1 ⟨rfl,hz1⟩;rw [← HRI.out];have vv:=zd vv hz1;(try have kX:=ze kX hz1);clear hz1;(go_wp2_with fail);refine kO hK (HS.out _ vv) fun hHeld => ?_
    clear hK K
   |
    refine kLc 14 (fun K hK => ?_) ?_;go_simp;clear hHeld;refine (za7 n HN1.out HN6.out _).mono ?_;rintro e z2 ⟨rfl,ez⟩;obtain rfl:=ez.symm;rw [← HAL.out];(go_wp2_with fail);refine kO hK (HS.out _ vv) fun hHeld => ?_
    clear hK K
   |
    refine kLc 15 (fun K hK => ?_) ?_;go_simp
    first
    | refine zac (K:=K _) (fun wx kX hbx => ?_)
    | refine zR (K:=K _) (fun wx kX hbx => ?_)
    obtain ⟨PB,hXe,hXl⟩:=zc2 vv;have HPL:=hide hXl;have kX:wx.heap[PB]? = some (Obj.cells #[.int .i64 0] 3):=by rw [hXe]; exact kX
    first
    | rw [← hXe]
    | rw [← (show PB=w2.heap.size from hXe)]
    clear hXe hXl;have vv:=zd vv hbx;clear hbx;refine kO hK (HS.out _ vv) fun hHeld => ?_
    clear hK K
   |
    refine kLc 16 (fun K hK => ?_) ?_;have q0:=cell1 kX;have fq:=zm kX 0;go_simp;clear q0 fq;refine zbV (K:=K _) kX vv HPL.out _ (fun wq kX vv => ?_);refine kO hK (HS.out _ vv) fun hHeld => ?_
    clear hK K
  ·by_cases hc3:col=3
   ·subst hc3;go_enter Tryz.func216,Tryz.ntmps216;(go_upto_region 1 with fail);(try rw [hw2]);clear hw1 hw2 hc1 hc2;refine wp_region_held_drew (S:=(fun W=>zcc W w.heap.size 0 (.pointer (some ⟨X,0,none⟩))∧zcc W X 0 (.slice a n c)∧zcc W X 5 (.slice ra rn rc)∧zcc W X 6 (.slice oa on oc))) (by kernel_rfl) (HS.out _ vv) (fun hHeld => ?_)
    repeat' first
    |
     with_reducible refine kLa ?_
     first
     |
      refine kLf 0 ?_;refine kK 0 ?_
     |
      refine kLf 1 ?_;refine kK 1 ?_
     |
      refine kLf 2 ?_;refine kK 2 ?_
     |
      refine kLf 3 ?_;refine kK 3 ?_
     |
      refine kLf 4 ?_;refine kK 4 ?_
     |
      refine kLf 5 ?_;refine kK 5 ?_
     |
      refine kLf 6 ?_;refine kK 6 ?_
     |
      refine kLf 8 ?_;refine kK 8 ?_
     |
      refine kLf 9 ?_;refine kK 9 ?_
     |
      refine kLf 10 ?_;refine kK 10 ?_
     |
      refine kLf 11 ?_;refine kK 11 ?_
     |
      refine kLf 12 ?_;refine kK 12 ?_
     |
      refine kLf 13 ?_;refine kK 13 ?_
     |
      refine kLf 17 ?_;refine kK 17 ?_
     |
      refine kLp [7,15] ?_
     |
      refine kLp [14,15] ?_
     |
      refine kLp [15] ?_
     |
      refine kLp [16] ?_
     |
      refine kLp [14] ?_
     |
      refine kLp [7] ?_
     |
      refine wpAnyH_done (by kernel_rfl) ?_ _;have HPQ:=hide kX;have HV:=hide vv;have HBQ:=hide (zd HB2.out vv);have HKS:=hide (ze HK2.out vv);clear hHeld vv kX;have cp:=cell1 HPQ.out;(go_upto_region 8 with fail);clear cp;have vw:Below wq.heap.size wq wq.drew:=zr (Below.refl _ _);refine wp_region_held_drew (S:=(fun W=>zcc W PB 0 (.int .i64 ri))) (by kernel_rfl) (cell1 (ze HPQ.out vw)) (fun hHeld => ?_);refine kK 0 ?_;refine kK 1 ?_;refine kK 3 ?_;refine kK 4 ?_;refine kR 2 fun K hK => ?_
      go_simp;clear hHeld;refine (zcN 266 #[.pointer (some ⟨w.heap.size,0,none⟩),.pointer (some ⟨PB,0,none⟩)] 0 al _).mono ?_;rintro e z1 ⟨wb,lb,hb,rfl,q1,q2,q3,hz1⟩;have vw:=zd vw hz1;have NA:NumAt z1 wb lb hb 266 #[.pointer (some ⟨w.heap.size,0,none⟩),.pointer (some ⟨PB,0,none⟩)] 0 al:=⟨q1,q2,q3⟩;clear q1 q2 q3 hz1;(go_wp2_with fail);refine kO hK (cell1 (ze HPQ.out vw)) fun hHeld => ?_
      clear hK K;refine kR 5 fun K hK => ?_
      have ks:=ze HKS.out vw;obtain ⟨q0,q1,q2⟩:=zag ks;have f0:=zm ks 0;have f1:=zm ks 1;have f2:=zm ks 2;go_simp;clear q0 q1 q2 f0 f1 f2;have vb:=zd HBQ.out vw;refine zbj (K:=K _) ks vb HSB.out _ _ _ (fun wr kq vq eq => ?_);have HTQ:Hid (Tr wr base X a n c fa fn fc ra rn rc oa on oc B ua un uc):=hide (by rw [eq]; exact (HT.out.below vb).stored3 ks _ _ _);have HCQ:Hid (Cap wr w.heap.size X):=hide (by rw [eq]; exact kept3 (show z1.heap[w.heap.size]? = _ from (HC.out.below HV.out).below vw) (zD (show z1.heap[w.heap.size]? = _ from (HC.out.below HV.out).below vw) ks (by decide)) _ _ _);have HPR:Hid (wr.heap[PB]? = some (.cells #[.int .i64 ri] 3)):=hide (by rw [eq]; exact kept3 (ze HPQ.out vw) (zD (ze HPQ.out vw) ks (by decide)) _ _ _);have HNQ:Hid (NumAt wr wb lb hb _ _ _ _):=hide (by rw [eq]; exact ⟨kept3 NA.f (zD NA.f ks (by decide)) _ _ _,kept3 NA.l (zD NA.l ks (by decide)) _ _ _,kept3 NA.h (zD NA.h ks (by decide)) _ _ _⟩);have HVQ:=hide vq;clear eq NA vb ks vq;refine kO hK (cell1 HPR.out) fun hHeld => ?_
      clear hK K;refine kK 6 ?_;refine wpAnyH_done (by kernel_rfl) ?_ _;obtain ⟨y0,y1,y2⟩:=zag kq;clear hHeld vw kq;go_wp2;exact bodyPost_ret (v:=.tuple #[.agg #[.int .i64 2,.func (.func 278) #[] #[.pointer (some ⟨lb,0,none⟩),.pointer (some ⟨hb,0,none⟩)],.func (.func 279) #[] #[.pointer (some ⟨wb,0,none⟩)]],.bool rt]) (by simp [results,Tryz.results216,go_sem, *]) rfl ⟨ziI HTQ.out HCQ.out HPR.out HNQ.out HRI.out HAL.out HRT.out,HVQ.out⟩
    |
     exact AllReadyH.nil
    |
     refine kLc 7 (fun K hK => ?_) ?_;go_simp;clear hHeld;refine (zaE ra rn rc B.v.rows oa on oc id _ (HR.out.below (zd HB2.out vv))).mono ?_;rintro e z1 ⟨rfl,hz1⟩;rw [← HRI.out];have vv:=zd vv hz1;(try have kX:=ze kX hz1);clear hz1;(go_wp2_with fail);refine kO hK (HS.out _ vv) fun hHeld => ?_
     clear hK K
    |
     refine kLc 14 (fun K hK => ?_) ?_;go_simp;clear hHeld;refine (za7 n HN1.out HN6.out _).mono ?_;rintro e z2 ⟨rfl,ez⟩;obtain rfl:=ez.symm;rw [← HAL.out];(go_wp2_with fail);refine kO hK (HS.out _ vv) fun hHeld => ?_
     clear hK K
    |
     refine kLc 15 (fun K hK => ?_) ?_;go_simp
     first
     | refine zac (K:=K _) (fun wx kX hbx => ?_)
     | refine zR (K:=K _) (fun wx kX hbx => ?_)
     obtain ⟨PB,hXe,hXl⟩:=zc2 vv;have HPL:=hide hXl;have kX:wx.heap[PB]? = some (Obj.cells #[.int .i64 0] 3):=by rw [hXe]; exact kX
     first
     | rw [← hXe]
     | rw [← (show PB=w2.heap.size from hXe)]
     clear hXe hXl;have vv:=zd vv hbx;clear hbx;refine kO hK (HS.out _ vv) fun hHeld => ?_
     clear hK K
    |
     refine kLc 16 (fun K hK => ?_) ?_;have q0:=cell1 kX;have fq:=zm kX 0;go_simp;clear q0 fq;refine zbV (K:=K _) kX vv HPL.out _ (fun wq kX vv => ?_);refine kO hK (HS.out _ vv) fun hHeld => ?_
     clear hK K
   ·have HK:Hid (rowK B col id=none):=hide (by unfold rowK; rw [if_neg hc1,if_neg (by rintro (h1 | h1); exact hc2 h1; exact hc3 h1)]);go_enter Tryz.func216,Tryz.ntmps216;(go_upto_region 1 with fail);(try rw [hw2]);clear hw1 hw2;refine wp_region_held_drew (S:=(fun W=>zcc W w.heap.size 0 (.pointer (some ⟨X,0,none⟩))∧zcc W X 0 (.slice a n c)∧zcc W X 5 (.slice ra rn rc)∧zcc W X 6 (.slice oa on oc))) (by kernel_rfl) (HS.out _ vv) (fun hHeld => ?_)
    repeat' first
    |
     with_reducible refine kLa ?_
     first
     |
      refine kLf 0 ?_;refine kK 0 ?_
     |
      refine kLf 1 ?_;refine kK 1 ?_
     |
      refine kLf 2 ?_;refine kK 2 ?_
     |
      refine kLf 3 ?_;refine kK 3 ?_
     |
      refine kLf 4 ?_;refine kK 4 ?_
     |
      refine kLf 5 ?_;refine kK 5 ?_
     |
      refine kLf 6 ?_;refine kK 6 ?_
     |
      refine kLf 8 ?_;refine kK 8 ?_
     |
      refine kLf 9 ?_;refine kK 9 ?_
     |
      refine kLf 10 ?_;refine kK 10 ?_
     |
      refine kLf 11 ?_;refine kK 11 ?_
     |
      refine kLf 12 ?_;refine kK 12 ?_
     |
      refine kLf 13 ?_;refine kK 13 ?_
     |
      refine kLf 17 ?_;refine kK 17 ?_
     |
      refine kLp [7,15] ?_
     |
      refine kLp [14,15] ?_
     |
      refine kLp [15] ?_
     |
      refine kLp [16] ?_
     |
      refine kLp [14] ?_
     |
      refine kLp [7] ?_
     |
      refine wpAnyH_done (by kernel_rfl) ?_ _;have HPQ:=hide kX;have HV:=hide vv;have HBQ:=hide (zd HB2.out vv);have HKS:=hide (ze HK2.out vv);clear hHeld vv kX;obtain ⟨y0,y1,y2⟩:=zag HKS.out;have f0:=zm HKS.out 0;have f1:=zm HKS.out 1;have f2:=zm HKS.out 2;go_wp2;exact bodyPost_ret (v:=.tuple #[.agg #[.int .i64 0,.nilFunc,.nilFunc],.bool false]) (by simp [results,Tryz.results216,go_sem, *]) rfl ⟨by rw [HK.out]; exact .inl rfl,zg (zg (zg HBQ.out HSB.out 0 _) HSB.out 1 _) HSB.out 2 _⟩
    |
     exact AllReadyH.nil
    |
     refine kLc 7 (fun K hK => ?_) ?_;go_simp;clear hHeld;refine (zaE ra rn rc B.v.rows oa on oc id _ (HR.out.below (zd HB2.out vv))).mono ?_;rintro e z1 ⟨rfl,hz1⟩;rw [← HRI.out];have vv:=zd vv hz1;(try have kX:=ze kX hz1);clear hz1;(go_wp2_with fail);refine kO hK (HS.out _ vv) fun hHeld => ?_
     clear hK K
    |
     refine kLc 14 (fun K hK => ?_) ?_;go_simp;clear hHeld;refine (za7 n HN1.out HN6.out _).mono ?_;rintro e z2 ⟨rfl,ez⟩;obtain rfl:=ez.symm;rw [← HAL.out];(go_wp2_with fail);refine kO hK (HS.out _ vv) fun hHeld => ?_
     clear hK K
    |
     refine kLc 15 (fun K hK => ?_) ?_;go_simp
     first
     | refine zac (K:=K _) (fun wx kX hbx => ?_)
     | refine zR (K:=K _) (fun wx kX hbx => ?_)
     obtain ⟨PB,hXe,hXl⟩:=zc2 vv;have HPL:=hide hXl;have kX:wx.heap[PB]? = some (Obj.cells #[.int .i64 0] 3):=by rw [hXe]; exact kX
     first
     | rw [← hXe]
     | rw [← (show PB=w2.heap.size from hXe)]
     clear hXe hXl;have vv:=zd vv hbx;clear hbx;refine kO hK (HS.out _ vv) fun hHeld => ?_
     clear hK K
    |
     refine kLc 16 (fun K hK => ?_) ?_;have q0:=cell1 kX;have fq:=zm kX 0;go_simp;clear q0 fq;refine zbV (K:=K _) kX vv HPL.out _ (fun wq kX vv => ?_);refine kO hK (HS.out _ vv) fun hHeld => ?_
     clear hK K
end

end

section
open Go.RowKit

theorem ziS (x:Int):IntKind.i64.wrap x=wrap64 x:=by
 first
 | rfl
 | exact IntKind.wrap_i64 x
 | (rw [IntKind.wrap_i64]; unfold wrap64; rfl)
 | (rw [IntKind.wrap_i64]; unfold wrap64; omega)

theorem zh2 {x m:Int} (h:I64 x) (hm:m≤6):(0≤IntKind.i64.wrap (x - 1)∧IntKind.i64.wrap (x - 1)≤m - 1)↔(1≤x∧x≤m):=by
 unfold I64 at h;by_cases hx:x = -9223372036854775808
 ·subst hx;have e:IntKind.i64.wrap (-9223372036854775808 - 1)=9223372036854775807:=by decide
  rw [e];omega
 ·have e:IntKind.i64.wrap (x - 1)=x - 1:=(by rw [IntKind.wrap_i64]; omega);rw [e];omega

theorem zim {B:BR} {z:List Int} (hz:I64s z) (hp:B.ports.length≤6) (hn:z≠[1,3,1,1,1]) :
  zaw B z=if (colOf z).1=2 then portK B (colOf z).2.1 (IntKind.i64.wrap ((colOf z).2.2 - 1)) else if (colOf z).1=3 then rowK B (colOf z).2.1 (colOf z).2.2 else none:=by
 unfold zaw;rw [if_neg hn];by_cases h6:z.length=6∧z.take 3=[1,3,1]
 ·have e:colOf z=(z.getD 3 0,z.getD 4 0,z.getD 5 0):=by unfold colOf; rw [if_pos h6]
  rw [if_pos h6,e];dsimp only;have h5:I64 (z.getD 5 0):=by
   have:z.getD 5 0∈z:=by
    obtain ⟨p0,p1,p2,p3,p4,p5,rfl⟩:=ziX h6.1
    simp
   exact hz _ this
  generalize z.getD 3 0=d;generalize z.getD 4 0=e;generalize z.getD 5 0=x at h5;have hw:=zh2 (m:=(B.ports.length:Int)) h5 (by omega);unfold pickK portK rowK;by_cases hd:d=2
  ·rw [if_pos hd,if_pos hd];by_cases hc:(e=2∨e=4)∧1≤x∧x≤(B.ports.length:Int)
   ·have hv:=hw.2 hc.2;have ex:IntKind.i64.wrap (x - 1)=x - 1:=(by unfold I64 at h5; rw [IntKind.wrap_i64]; omega);rw [if_pos hc,if_pos (show (e=2∨e=4)∧0≤IntKind.i64.wrap (x - 1)∧IntKind.i64.wrap (x - 1)≤(B.ports.length:Int) - 1 from ⟨hc.1,hv⟩),ex]
   ·rw [if_neg hc,if_neg (show ¬((e=2∨e=4)∧0≤IntKind.i64.wrap (x - 1)∧IntKind.i64.wrap (x - 1)≤(B.ports.length:Int) - 1) from fun q=>hc ⟨q.1,hw.1 q.2⟩)]
  ·rw [if_neg hd,if_neg hd];by_cases h3:d=3
   ·rw [if_pos h3,if_pos h3];by_cases he:e=1
    ·by_cases hx:1≤x∧x≤99
     ·rw [if_pos ⟨he,hx⟩,if_pos he,if_pos hx]
     ·rw [if_neg (fun q=>hx q.2),if_pos he,if_neg hx,if_neg (by omega)]
    ·rw [if_neg (fun q=>he q.1),if_neg he]
   ·rw [if_neg h3,if_neg h3]
 ·have e:colOf z=(0,0,0):=by unfold colOf; rw [if_neg h6]
  rw [if_neg h6,e]
  rfl

section
variable {w:World} {base X:Nat} {a:Option Addr} {n c:Nat} {fa:Option Addr} {fn fc:Nat} {ra:Option Addr} {rn rc:Nat} {oa:Option Addr} {on oc:Nat} {B:BR} {ua:Option Addr} {un uc:Nat}

theorem zd6 (h:Tr w base X a n c fa fn fc ra rn rc oa on oc B ua un uc) (hm:Mid B) (za:Option Addr) (zn zc:Nat) (z:List Int) (hz:IRow w za zn zc z) :
  Calls Tryz.prog 152 #[.pointer (some ⟨X,0,none⟩),.slice za zn zc] w fun e w'=>zbL w' X n rn on B e (zaw B z)∧Below w.heap.size w w':=by
 have HT:=hide h;have HMD:=hide hm;have HZ:=hide hz;generalize hw1:w.alloc (Obj.cells #[.int .i64 0,.nilFunc,.nilFunc] 199)=w1;have b1:=zb hw1;have k1:=zk hw1;clear h hm hz;go_enter Tryz.func152,Tryz.ntmps152;go_wp2_with fail
 try rw [hw1]
 clear hw1;refine (za8 1 1 _).mono ?_;rintro e w2 ⟨rfl,hw2⟩;have hb2:Below w1.heap.size w1 w2:=by rw [hw2]; exact zh _ _
 have kl:w2.heap[w1.heap.size]? = some (.cells #[.int .i64 1,.int .i64 3,.int .i64 1,.int .i64 1,.int .i64 1] 3):=by rw [hw2]; exact zv _ _
 have own:=zT intF (base:=0) (l:=[1,3,1,1,1]) kl rfl (Nat.zero_le _) (by simp);have hI:IRow w2 (some ⟨w1.heap.size,0,none⟩) 5 5 [1,3,1,1,1]:=zV (by rw [← zF]; exact own) (by intro y hy; simp at hy; omega);clear hw2 kl own;go_wp2_with fail
 refine (zbn za zn zc z _ 5 5 [1,3,1,1,1] _ (HZ.out.below (zd b1 hb2)) hI).mono ?_;rintro e w3 ⟨rfl,nd,rfl⟩;have vv:=zap (zd b1 hb2) nd;have ks:=ze k1 (zap hb2 nd);clear hI b1 hb2 k1;by_cases hq0:z=[1,3,1,1,1]
 ·have HKD:Hid (zaw B z=some .name):=hide (by unfold zaw; rw [if_pos hq0]);rw [decide_eq_true hq0];clear hq0;generalize hw4:w2.drewN nd=w4 at *;(go_wp2_with fail);refine (zgA X _).mono ?_;rintro e w5 ⟨tb,rfl,hc,hz5⟩;have ks:=ze ks hz5;have vv:=zd vv hz5;obtain ⟨y0,y1,y2⟩:=zag ks;have f0:=zm ks 0;have f1':=zm ks 1;have f2':=zm ks 2;have hs:SetAt w5 X n rn on B .name 258 #[] 259 #[.pointer (some ⟨tb,0,none⟩)]:=⟨tb,rfl,rfl,rfl,rfl,hc⟩;have HF:=hide (hs.stored3 ks (.int .i64 4) (.func (.func 258) #[] #[]) (.func (.func 259) #[] #[.pointer (some ⟨tb,0,none⟩)]));have HBE:=hide (zg (zg (zg vv (Nat.le_refl _) 0 (.int .i64 4)) (Nat.le_refl _) 1 (.func (.func 258) #[] #[])) (Nat.le_refl _) 2 (.func (.func 259) #[] #[.pointer (some ⟨tb,0,none⟩)]));clear ks vv hs hc hz5;go_wp2;exact bodyPost_ret (v:=.tuple #[.agg #[.int .i64 4,.func (.func 258) #[] #[],.func (.func 259) #[] #[.pointer (some ⟨tb,0,none⟩)]],.bool true]) (by simp [results,Tryz.results152,go_sem, *]) rfl ⟨by rw [HKD.out]; exact ⟨_,_,_,_,rfl,HF.out⟩,HBE.out⟩
 ·have hkc:=zim (B:=B) HZ.out.byte (by have:=HMD.out.pn; omega) hq0;rw [decide_eq_false hq0];clear hq0;generalize hw4:w2.drewN nd=w4 at *;clear hw4;(go_wp2_with fail);refine (ze2 za zn zc z _ (HZ.out.below vv)).mono ?_;rintro e w4' ⟨rfl,hz4⟩;have ks:=ze ks hz4;have vv:=zd vv hz4;clear hz4;generalize hcol:colOf z=col at hkc;obtain ⟨hd,co,nu⟩:=col;dsimp only at hkc;have HKC:=hide hkc;clear hkc hcol;dsimp only;by_cases h2:hd=2
  ·subst h2;have HKD:Hid (zaw B z=portK B co (wrap64 (nu - 1))):=hide (by rw [HKC.out,if_pos rfl,ziS]);(go_wp2_with fail);refine (zgC (HT.out.below vv) HMD.out co _).mono ?_;rintro e w5 ⟨hres,hz5⟩;have ks:=ze ks hz5;have vv:=zd vv hz5;clear hz5;cases hq:portK B co (wrap64 (nu - 1)) with
   | some kd =>
    rw [hq] at hres;obtain ⟨f1,c1,f2,c2,rfl,hs⟩:=hres;have HK:=hide (HKD.out.trans hq);obtain ⟨y0,y1,y2⟩:=zag ks;have f0:=zm ks 0;have f1':=zm ks 1;have f2':=zm ks 2;have HF:Hid (zbL (((w5.setCell ⟨w.heap.size,0,none⟩ (.int .i64 (kindN kd))).setCell ⟨w.heap.size,1,none⟩ (.func (.func f1) #[] c1)).setCell ⟨w.heap.size,2,none⟩ (.func (.func f2) #[] c2)) X n rn on B (.returned (.tuple #[.agg #[.int .i64 (kindN kd),.func (.func f1) #[] c1,.func (.func f2) #[] c2],.bool true])) (zaw B z)):=hide (by rw [HK.out]; exact ⟨f1,c1,f2,c2,rfl,hs.stored3 ks (.int .i64 (kindN kd)) (.func (.func f1) #[] c1) (.func (.func f2) #[] c2)⟩);have HBE:=hide (zg (zg (zg vv (Nat.le_refl _) 0 (.int .i64 (kindN kd))) (Nat.le_refl _) 1 (.func (.func f1) #[] c1)) (Nat.le_refl _) 2 (.func (.func f2) #[] c2));clear ks vv;go_wp2;exact bodyPost_ret (v:=.tuple #[.agg #[.int .i64 (kindN kd),.func (.func f1) #[] c1,.func (.func f2) #[] c2],.bool true]) (by simp [results,Tryz.results152,go_sem, *]) rfl ⟨HF.out,HBE.out⟩
   | none =>
    rw [hq] at hres;have HK:=hide (HKD.out.trans hq);rcases hres with rfl | ⟨f1,c1,f2,c2,rfl⟩
    ·obtain ⟨y0,y1,y2⟩:=zag ks;have f0:=zm ks 0;have f1':=zm ks 1;have f2':=zm ks 2;have HF:Hid (zbL (((w5.setCell ⟨w.heap.size,0,none⟩ (.int .i64 0)).setCell ⟨w.heap.size,1,none⟩ (.nilFunc)).setCell ⟨w.heap.size,2,none⟩ (.nilFunc)) X n rn on B (.returned (.tuple #[.agg #[.int .i64 0,.nilFunc,.nilFunc],.bool false])) (zaw B z)):=hide (by rw [HK.out]; exact .inl rfl);have HBE:=hide (zg (zg (zg vv (Nat.le_refl _) 0 (.int .i64 0)) (Nat.le_refl _) 1 (.nilFunc)) (Nat.le_refl _) 2 (.nilFunc));clear ks vv;go_wp2;exact bodyPost_ret (v:=.tuple #[.agg #[.int .i64 0,.nilFunc,.nilFunc],.bool false]) (by simp [results,Tryz.results152,go_sem, *]) rfl ⟨HF.out,HBE.out⟩
    ·obtain ⟨y0,y1,y2⟩:=zag ks;have f0:=zm ks 0;have f1':=zm ks 1;have f2':=zm ks 2;have HF:Hid (zbL (((w5.setCell ⟨w.heap.size,0,none⟩ (.int .i64 2)).setCell ⟨w.heap.size,1,none⟩ (.func (.func f1) #[] c1)).setCell ⟨w.heap.size,2,none⟩ (.func (.func f2) #[] c2)) X n rn on B (.returned (.tuple #[.agg #[.int .i64 2,.func (.func f1) #[] c1,.func (.func f2) #[] c2],.bool false])) (zaw B z)):=hide (by rw [HK.out]; exact .inr ⟨f1,c1,f2,c2,rfl⟩);have HBE:=hide (zg (zg (zg vv (Nat.le_refl _) 0 (.int .i64 2)) (Nat.le_refl _) 1 (.func (.func f1) #[] c1)) (Nat.le_refl _) 2 (.func (.func f2) #[] c2));clear ks vv;go_wp2;exact bodyPost_ret (v:=.tuple #[.agg #[.int .i64 2,.func (.func f1) #[] c1,.func (.func f2) #[] c2],.bool false]) (by simp [results,Tryz.results152,go_sem, *]) rfl ⟨HF.out,HBE.out⟩
  ·by_cases h3:hd=3
   ·subst h3;have HKD:Hid (zaw B z=rowK B co nu):=hide (by rw [HKC.out,if_neg (by decide),if_pos rfl]);(go_wp2_with fail);refine (zhM (HT.out.below vv) HMD.out co nu).mono ?_;rintro e w5 ⟨hres,hz5⟩;have ks:=ze ks hz5;have vv:=zd vv hz5;clear hz5;cases hq:rowK B co nu with
    | some kd =>
     rw [hq] at hres;obtain ⟨f1,c1,f2,c2,rfl,hs⟩:=hres;have HK:=hide (HKD.out.trans hq);obtain ⟨y0,y1,y2⟩:=zag ks;have f0:=zm ks 0;have f1':=zm ks 1;have f2':=zm ks 2;have HF:Hid (zbL (((w5.setCell ⟨w.heap.size,0,none⟩ (.int .i64 (kindN kd))).setCell ⟨w.heap.size,1,none⟩ (.func (.func f1) #[] c1)).setCell ⟨w.heap.size,2,none⟩ (.func (.func f2) #[] c2)) X n rn on B (.returned (.tuple #[.agg #[.int .i64 (kindN kd),.func (.func f1) #[] c1,.func (.func f2) #[] c2],.bool true])) (zaw B z)):=hide (by rw [HK.out]; exact ⟨f1,c1,f2,c2,rfl,hs.stored3 ks (.int .i64 (kindN kd)) (.func (.func f1) #[] c1) (.func (.func f2) #[] c2)⟩);have HBE:=hide (zg (zg (zg vv (Nat.le_refl _) 0 (.int .i64 (kindN kd))) (Nat.le_refl _) 1 (.func (.func f1) #[] c1)) (Nat.le_refl _) 2 (.func (.func f2) #[] c2));clear ks vv;go_wp2;exact bodyPost_ret (v:=.tuple #[.agg #[.int .i64 (kindN kd),.func (.func f1) #[] c1,.func (.func f2) #[] c2],.bool true]) (by simp [results,Tryz.results152,go_sem, *]) rfl ⟨HF.out,HBE.out⟩
    | none =>
     rw [hq] at hres;have HK:=hide (HKD.out.trans hq);rcases hres with rfl | ⟨f1,c1,f2,c2,rfl⟩
     ·obtain ⟨y0,y1,y2⟩:=zag ks;have f0:=zm ks 0;have f1':=zm ks 1;have f2':=zm ks 2;have HF:Hid (zbL (((w5.setCell ⟨w.heap.size,0,none⟩ (.int .i64 0)).setCell ⟨w.heap.size,1,none⟩ (.nilFunc)).setCell ⟨w.heap.size,2,none⟩ (.nilFunc)) X n rn on B (.returned (.tuple #[.agg #[.int .i64 0,.nilFunc,.nilFunc],.bool false])) (zaw B z)):=hide (by rw [HK.out]; exact .inl rfl);have HBE:=hide (zg (zg (zg vv (Nat.le_refl _) 0 (.int .i64 0)) (Nat.le_refl _) 1 (.nilFunc)) (Nat.le_refl _) 2 (.nilFunc));clear ks vv;go_wp2;exact bodyPost_ret (v:=.tuple #[.agg #[.int .i64 0,.nilFunc,.nilFunc],.bool false]) (by simp [results,Tryz.results152,go_sem, *]) rfl ⟨HF.out,HBE.out⟩
     ·obtain ⟨y0,y1,y2⟩:=zag ks;have f0:=zm ks 0;have f1':=zm ks 1;have f2':=zm ks 2;have HF:Hid (zbL (((w5.setCell ⟨w.heap.size,0,none⟩ (.int .i64 2)).setCell ⟨w.heap.size,1,none⟩ (.func (.func f1) #[] c1)).setCell ⟨w.heap.size,2,none⟩ (.func (.func f2) #[] c2)) X n rn on B (.returned (.tuple #[.agg #[.int .i64 2,.func (.func f1) #[] c1,.func (.func f2) #[] c2],.bool false])) (zaw B z)):=hide (by rw [HK.out]; exact .inr ⟨f1,c1,f2,c2,rfl⟩);have HBE:=hide (zg (zg (zg vv (Nat.le_refl _) 0 (.int .i64 2)) (Nat.le_refl _) 1 (.func (.func f1) #[] c1)) (Nat.le_refl _) 2 (.func (.func f2) #[] c2));clear ks vv;go_wp2;exact bodyPost_ret (v:=.tuple #[.agg #[.int .i64 2,.func (.func f1) #[] c1,.func (.func f2) #[] c2],.bool false]) (by simp [results,Tryz.results152,go_sem, *]) rfl ⟨HF.out,HBE.out⟩
   ·have HKD:Hid (zaw B z=none):=hide (by rw [HKC.out,if_neg h2,if_neg h3]);obtain ⟨y0,y1,y2⟩:=zag ks;have f0:=zm ks 0;have f1':=zm ks 1;have f2':=zm ks 2;have HBE:=hide (zg (zg (zg vv (Nat.le_refl _) 0 (.int .i64 0)) (Nat.le_refl _) 1 .nilFunc) (Nat.le_refl _) 2 .nilFunc);clear ks vv;go_wp2;exact bodyPost_ret (v:=.tuple #[.agg #[.int .i64 0,.nilFunc,.nilFunc],.bool false]) (by simp [results,Tryz.results152,go_sem, *]) rfl ⟨by rw [HKD.out]; exact .inl rfl,HBE.out⟩
end

end

end Go.Proofs.YtcpdkcdfnpcemaaGreat
