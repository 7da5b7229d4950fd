/-
  Packed: LongI NetOwn NetOwnA.
-/
import Derived.Test.YtkaefmfopejbaaaGreatPVK11
import Derived.Deep.LoopGhost
import Derived.WalkMore
namespace Go.Proofs.YtkaefmfopejbaaaGreat
set_option maxRecDepth 100000
set_option maxHeartbeats 16000000
open Go.RowKit

abbrev q88:Oper:=⟨some 18,.fieldAddr 157 (.tmp 9) 1,0,"l16_true.go:117",#[],none⟩
abbrev q89:Oper:=⟨some 19,.load 3 (.tmp 18),3,"l16_true.go:117",#[⟨0,.data⟩],none⟩
abbrev q90:Oper:=⟨some 20,.move (.tmp 0),123,"l16_true.go:117",#[],none⟩
abbrev q91:Oper:=⟨some 21,.nilCheck (.tmp 20),0,"l16_true.go:117",#[⟨2,.data⟩],none⟩
abbrev q92:Oper:=⟨some 22,.fieldAddr 127 (.tmp 21) 0,0,"l16_true.go:117",#[⟨3,.data⟩],none⟩
abbrev q93:Oper:=⟨some 23,.fieldAddr 125 (.tmp 22) 0,0,"l16_true.go:117",#[⟨4,.data⟩],none⟩
abbrev q94:Oper:=⟨some 24,.load 3 (.tmp 23),3,"l16_true.go:117",#[⟨5,.data⟩],none⟩
abbrev q95:Oper:=⟨some 25,.binOp .neq 3 (.tmp 19) (.tmp 24) 3,4,"l16_true.go:117",#[⟨1,.data⟩,⟨6,.data⟩],none⟩
abbrev q96:Oper:=⟨some 33,.move (.tmp 10),123,"l16_true.go:121",#[],none⟩
abbrev q97:Oper:=⟨some 34,.nilCheck (.tmp 33),0,"l16_true.go:121",#[⟨0,.data⟩],none⟩
abbrev q98:Oper:=⟨some 35,.fieldAddr 127 (.tmp 34) 0,0,"l16_true.go:121",#[⟨1,.data⟩],none⟩
abbrev q99:Oper:=⟨some 36,.fieldAddr 125 (.tmp 35) 0,0,"l16_true.go:121",#[⟨2,.data⟩],none⟩
abbrev q100:Oper:=⟨some 37,.load 3 (.tmp 36),3,"l16_true.go:121",#[⟨3,.data⟩],none⟩
abbrev q101:Oper:=⟨some 38,.fieldAddr 157 (.tmp 9) 0,0,"l16_true.go:121",#[],none⟩
abbrev q102:Oper:=⟨some 39,.load 3 (.tmp 38),3,"l16_true.go:121",#[⟨5,.data⟩],none⟩
abbrev q103:Oper:=⟨some 40,.binOp .eql 3 (.tmp 37) (.tmp 39) 3,4,"l16_true.go:121",#[⟨4,.data⟩,⟨6,.data⟩],none⟩
abbrev q104:Oper:=⟨some 51,.call ⟨.value (.func 66),#[.tmp 48,.tmp 50],#[28,3]⟩,3,"l16_true.go:125",#[⟨7,.data⟩,⟨9,.data⟩],none⟩
abbrev q105:Oper:=⟨some 52,.binOp .or 3 (.tmp 47) (.tmp 51) 3,3,"l16_true.go:125",#[⟨6,.data⟩,⟨10,.data⟩],none⟩
abbrev q106:Oper:=⟨some 53,.build 125 #[(0,.tmp 42),(1,.tmp 52)],125,"l16_true.go:125",#[⟨1,.data⟩,⟨11,.data⟩],none⟩
abbrev q107:Oper:=⟨some 11,.alloc 125,0,"l16_true.go:125",#[],none⟩
abbrev q108:Oper:=⟨none,.store 125 (.tmp 11) (.tmp 53),0,"l16_true.go:125",#[⟨13,.data⟩,⟨12,.data⟩,⟨10,.chain⟩,⟨0,.phase⟩,⟨1,.phase⟩,⟨2,.phase⟩,⟨3,.phase⟩,⟨4,.phase⟩,⟨5,.phase⟩,⟨6,.phase⟩,⟨7,.phase⟩,⟨8,.phase⟩,⟨9,.phase⟩,⟨10,.phase⟩,⟨11,.phase⟩,⟨12,.phase⟩,⟨13,.phase⟩],none⟩
abbrev q109:Oper:=⟨some 54,.move (.tmp 7),131,"l16_true.go:126",#[],none⟩
abbrev q110:Oper:=⟨some 55,.load 125 (.tmp 11),125,"l16_true.go:126",#[],none⟩
abbrev q111:Oper:=⟨some 56,.move (.tmp 0),123,"l16_true.go:126",#[],none⟩
abbrev q112:Oper:=⟨some 57,.nilCheck (.tmp 56),0,"l16_true.go:126",#[⟨2,.data⟩],none⟩
abbrev q113:Oper:=⟨some 58,.fieldAddr 127 (.tmp 57) 1,0,"l16_true.go:126",#[⟨3,.data⟩],none⟩
abbrev q114:Oper:=⟨some 59,.load 3 (.tmp 58),3,"l16_true.go:126",#[⟨4,.data⟩],none⟩
abbrev q115:Oper:=⟨some 60,.fieldAddr 157 (.tmp 9) 2,0,"l16_true.go:126",#[],none⟩
abbrev q116:Oper:=⟨some 61,.load 3 (.tmp 60),3,"l16_true.go:126",#[⟨6,.data⟩],none⟩
abbrev q117:Oper:=⟨some 63,.move (.tmp 0),123,"l16_true.go:126",#[],none⟩
abbrev q118:Oper:=⟨some 62,.call ⟨.value (.func 96),#[.tmp 59,.tmp 61],#[3,3]⟩,3,"l16_true.go:126",#[⟨5,.data⟩,⟨7,.data⟩],none⟩
abbrev q119:Oper:=⟨some 64,.build 127 #[(0,.tmp 55),(1,.tmp 62),(2,.tmp 63)],127,"l16_true.go:126",#[⟨1,.data⟩,⟨8,.data⟩,⟨9,.data⟩],none⟩
abbrev q120:Oper:=⟨some 65,.box 127 (.tmp 64),123,"l16_true.go:126",#[⟨10,.data⟩],none⟩
abbrev q121:Oper:=⟨some 66,.buildSlice 131 1 #[(0,.tmp 65)],131,"l16_true.go:126",#[⟨11,.data⟩],none⟩
abbrev q122:Oper:=⟨some 67,.call ⟨.builtin .append,#[.tmp 54,.tmp 66],#[131,131]⟩,131,"l16_true.go:126",#[⟨0,.data⟩,⟨12,.data⟩,⟨8,.chain⟩],none⟩
abbrev q123:Oper:=⟨some 7,.assign (.tmp 67),131,"l16_true.go:126",#[⟨13,.data⟩,⟨13,.chain⟩,⟨0,.phase⟩,⟨1,.phase⟩,⟨2,.phase⟩,⟨3,.phase⟩,⟨4,.phase⟩,⟨5,.phase⟩,⟨6,.phase⟩,⟨7,.phase⟩,⟨8,.phase⟩,⟨9,.phase⟩,⟨10,.phase⟩,⟨11,.phase⟩,⟨12,.phase⟩,⟨13,.phase⟩],none⟩

structure zbI (n:TN) (r:List TN) (H:List HP) (L:List (List TN)):Prop where
 down:∀t∈L,∃(b:Nat) (h:HP),h∈H∧h.t=n.p∧h.f∉(n::r).map TN.p∧t=⟨b,h.f,n.o ||| 2 ^ h.f,n.s+h.c⟩::n::r
 up:∀h∈H,h.t=n.p→h.f∉(n::r).map TN.p→∃b:Nat,(⟨b,h.f,n.o ||| 2 ^ h.f,n.s+h.c⟩::n::r)∈L
 len:L.length≤H.length

theorem zhh (n:TN) (r:List TN):zbI n r [] []:=⟨(by intro t ht; cases ht),(by intro h hh; cases hh),Nat.le_refl _⟩

theorem zbI.skip {n:TN} {r:List TN} {H:List HP} {k:Nat} {h:HP} {L:List (List TN)} (hl:zbI n r (H.take k) L) (hx:H[k]? = some h) (hn:h.t≠n.p∨h.f∈(n::r).map TN.p):zbI n r (H.take (k+1)) L:=by
 have e:H.take (k+1)=H.take k++[h]:=by rw [List.take_add_one,hx]; rfl
 rw [e];refine ⟨fun t ht => ?_,fun x hx h1 h2 => ?_,by have:=hl.len; rw [List.length_append]; omega⟩
 ·obtain ⟨b,x,h1,h2⟩:=hl.down t ht;exact ⟨b,x,List.mem_append_left _ h1,h2⟩
 ·rcases List.mem_append.1 hx with hx | hx
  ·exact hl.up x hx h1 h2
  ·rw [List.mem_singleton] at hx;subst hx;rcases hn with hn | hn
   ·exact absurd h1 hn
   ·exact absurd hn h2

theorem zbI.more {n:TN} {r:List TN} {H:List HP} {k:Nat} {h:HP} {L:List (List TN)} (hl:zbI n r (H.take k) L) (hx:H[k]? = some h) (ht:h.t=n.p) (hn:h.f∉(n::r).map TN.p) (b:Nat):zbI n r (H.take (k+1)) (L++[⟨b,h.f,n.o ||| 2 ^ h.f,n.s+h.c⟩::n::r]):=by
 have e:H.take (k+1)=H.take k++[h]:=by rw [List.take_add_one,hx]; rfl
 rw [e];refine ⟨fun t ht2 => ?_,fun x hx h1 h2 => ?_,by have:=hl.len; simp only [List.length_append,List.length_cons,List.length_nil]; omega⟩
 ·rcases List.mem_append.1 ht2 with ht2 | ht2
  ·obtain ⟨b,x,h1,h2⟩:=hl.down t ht2;exact ⟨b,x,List.mem_append_left _ h1,h2⟩
  ·rw [List.mem_singleton] at ht2;exact ⟨b,h,List.mem_append_right _ (List.mem_singleton.2 rfl),ht,hn,ht2⟩
 ·rcases List.mem_append.1 hx with hx | hx
  ·obtain ⟨b',h3⟩:=hl.up x hx h1 h2;exact ⟨b',List.mem_append_left _ h3⟩
  ·rw [List.mem_singleton] at hx;subst hx;exact ⟨b,List.mem_append_right _ (List.mem_singleton.2 rfl)⟩

theorem zeO {w:World}:∀{pre q:List TN},Laid w (pre++q)→Laid w q
 | [],_,h=>h
 | _::pre,_,h=>zeO (pre:=pre) h.2

theorem zfX {w:World} {X:Nat} {o:Obj} (_:w.heap[X]? = some o):∃Y,Y=X:=⟨X,rfl⟩

theorem zgD (N:NV) (n:TN) (r:List TN) (ha:Option Addr) (hn hc:Nat) (H:List HP) (w:World) (hl:Laid w (n::r)) (hH:GRow hopF w ha hn hc H) (hbn:N.bn≤6) (ho:n.o < 64) (hs:0≤n.s∧n.s≤100000) (hh:∀h∈H,h.f < 6∧1≤h.c∧h.c≤1000) (hHn:hn≤1000) :
  Calls Tryz.prog 68 #[.pointer (some ⟨n.b,0,none⟩),.agg #[.slice N.ba N.bn N.bc,.slice N.la N.ln N.lc,.slice N.sa N.sn N.sc],.slice ha hn hc] w fun e w'=>∃(ao:Option Addr) (cap:Nat) (L:List (List TN)),e=.returned (.slice ao L.length cap)∧zbI n r H L∧w'.ownsRow w.heap.size 123 1 (.slice ao (L).length cap) (L).length (trF.all (L))∧(∀t∈L,Laid w' t)∧Below w.heap.size w w':=by
 have hsz:=hH.size;have hle:=hH.le;have htop:=hH.top;unfold maxLen at htop;generalize hw1:w.alloc (Obj.cells #[.slice N.ba N.bn N.bc,.slice N.la N.ln N.lc,.slice N.sa N.sn N.sc] 28)=w1;have b01:=zb hw1;have k1:=zk hw1;have HW0:Hid (w1.heap.size=w.heap.size+1):=hide (by rw [← hw1]; simp);have HLD:=hide hl;have hTl:=(Array.getElem?_eq_some_iff.1 hl.1).1;have HLEN:=hide hsz;clear hsz;go_enter Tryz.func68,Tryz.ntmps68;go_wp2
 try go_step3
 go_wp2
 go_step3
 go_wp2_with fail
 try rw [hw1]
 clear hw1
 go_loopw [7,14] (fun s i wr=>∃(k:Nat) (ao:Option Addr) (cap:Nat) (L:List (List TN)),k≤hn∧i=.int .i64 k∧s=.slice ao L.length cap∧zbI n r (H.take k) L∧wr.ownsRow w1.heap.size 123 1 (.slice ao (L).length cap) (L).length (trF.all (L))∧(∀t∈L,Laid wr t)∧Below w1.heap.size w1 wr) (fun _ i _=>hn - (intOf i).toNat)
 case atStart=>exact ⟨0,none,0,[],Nat.zero_le _,rfl,rfl,zhh n r,World.ownsRow_nil _ _ _ _,(by intro t ht; cases ht),Below.refl _ _⟩
 case round =>
  obtain ⟨k,ao,cap,L,hk,rfl,rfl,hLO,ow,hla,hb⟩:=hrel;by_cases hlt:k < hn
  ·have i1:(k:Int) < (hn:Int):=by omega
   have i0:(0:Int)≤(k:Int):=by omega
   obtain ⟨h,gb,gf,hx,hha,c0,c1,c2⟩:=zjg (hH.below (zc b01 hb)) k hlt;have HHA:=hide hha;have HX:=hide hx;have HSM:Hid (h.f < 6∧(0≤n.s∧n.s≤1000000)∧(1≤h.c∧h.c≤1000000)):=hide (by have:=hh h (List.mem_of_getElem? hx); omega);have HLL:Hid (L.length≤1000):=hide (by have:=hLO.len; rw [List.length_take] at this; omega);generalize hwb:wr.alloc (Obj.cells #[.int .i64 (h.f:Int),.int .i64 (h.t:Int),.int .i64 h.c] 157)=wb;have brb:=zb hwb;have kb:=zk hwb;have ow:=zi ow brb;have hla:∀t∈L,Laid wb t:=fun t ht=>(hla t ht).below brb
   have hb:=zc hb brb;have kT:=za HLD.out.1 (zc b01 hb);clear hx hha;rw [HHA.out];(go_upto_region 5 with fail);(try rw [hwb]);generalize hxb:wr.heap.size=xb at *;clear hwb hxb brb c0 c1 c2;have vv:Below wb.heap.size wb wb.drew:=zG (Below.refl _ _);by_cases het:h.t=n.p
   ·have e1:(h.t:Int)≤(n.p:Int):=by omega
    have e2:(n.p:Int)≤(h.t:Int):=by omega
    have HTP:=hide het;clear het;refine wp_region_held_drew (S:=(fun W=>(zcc W xb 0 (.int .i64 (h.f:Int))∧zcc W xb 1 (.int .i64 (h.t:Int))∧zcc W xb 2 (.int .i64 h.c))∧(zcc W n.b 0 (.int .i64 (n.p:Int))∧zcc W n.b 1 (.int .i64 (n.o:Int))∧zcc W n.b 2 (.int .i64 n.s)∧zcc W n.b 3 (ptrT r)))) (by kernel_rfl) (⟨zaf (za kb vv),zr (za kT vv)⟩) (fun hHeld => ?_);refine kK 0 q88 ?_;refine kK 1 q89 ?_;refine kK 2 q90 ?_;refine kK 3 q91 ?_;refine kK 4 q92 ?_;refine kK 5 q93 ?_;refine kK 6 q94 ?_;refine kV 7 q95 (.bool false) ?_;refine wpAnyH_done (by kernel_rfl) ?_ _;clear hHeld;have hb:=zc hb vv;have ow:=zi ow vv;have hla:∀t∈L,Laid wb.drew t:=fun t ht=>(hla t ht).below vv
    have kb:=za kb vv;have kT:=za kT vv;generalize wb.drew=wd at *;clear vv;(go_wp2_with fail)
    go_loopg [10] (n::r).length (fun gk v wq=>∃(pre q:List TN),v=ptrT q∧q.length≤gk∧pre++q=n::r∧(∀m∈pre,m.p≠h.f)∧Below wd.heap.size wd wq)
    case atStart=>exact ⟨[],n::r,rfl,Nat.le_refl _,rfl,(by intro m hm; cases hm),Below.refl _ _⟩
    case round =>
     obtain ⟨pre,q,hv,hgk,hpq,hpre,hbq⟩:=hrel;cases q with
     | cons m q' =>
      replace hv:u10=.pointer (some ⟨m.b,0,none⟩):=hv
      subst hv;have kM:wr.heap[m.b]? = some (.cells #[.int .i64 (m.p:Int),.int .i64 (m.o:Int),.int .i64 m.s,ptrT q'] 127):=(zeO (pre:=pre) (q:=m::q') (by rw [hpq]; exact HLD.out.below (zc b01 (zc hb hbq)))).1;have kb2:=za kb hbq;have vv:Below wr.heap.size wr wr.drew:=zG (Below.refl _ _);by_cases hmf:m.p=h.f
      ·have e3:(m.p:Int)≤(h.f:Int):=by omega
       have e4:(h.f:Int)≤(m.p:Int):=by omega
       have HIN:Hid (h.f∈(n::r).map TN.p):=hide (by rw [← hpq,List.map_append]; exact List.mem_append_right _ (by rw [List.map_cons,hmf]; exact List.mem_cons_self ..));clear hmf hpq hpre;(go_upto_region 9 with fail);refine wp_region_held_drew (S:=(fun W=>(zcc W xb 0 (.int .i64 (h.f:Int))∧zcc W xb 1 (.int .i64 (h.t:Int))∧zcc W xb 2 (.int .i64 h.c))∧(zcc W m.b 0 (.int .i64 (m.p:Int))∧zcc W m.b 1 (.int .i64 (m.o:Int))∧zcc W m.b 2 (.int .i64 m.s)∧zcc W m.b 3 (ptrT q')))) (by kernel_rfl) (⟨zaf (za kb2 vv),zr (za kM vv)⟩) (fun hHeld => ?_);refine kK 0 q96 ?_;refine kK 1 q97 ?_;refine kK 2 q98 ?_;refine kK 3 q99 ?_;refine kK 4 q100 ?_;refine kK 5 q101 ?_;refine kK 6 q102 ?_;refine kV 7 q103 (.bool true) ?_;refine wpAnyH_done (by kernel_rfl) ?_ _;clear hHeld;have vv:=zc hbq vv;have HLO:=hide (hLO.skip HX.out (.inr HIN.out));have HOW:=hide (zi ow vv);have HLA:=hide (fun t ht=>(hla t ht).below vv);have HB:=hide (zc hb vv);clear hLO ow hla hb kb kT;go_wp2
       go_roundw
       case rel=>exact ⟨k+1,ao,cap,L,by omega,by go_num,rfl,HLO.out,HOW.out,HLA.out,HB.out⟩
       case measure=>simp [intOf]; omega
      ·have e3:¬(m.p:Int)=(h.f:Int):=by omega
       have HPQ:Hid (pre++([m]++q')=n::r):=hide hpq;have HPM:Hid (∀y∈pre++[m],y.p≠h.f):=hide (fun y hy=>by
        rcases List.mem_append.1 hy with hy | hy
        ·exact hpre y hy
        ·rw [List.mem_singleton] at hy;rw [hy];exact hmf)
       clear hmf hpq hpre;(go_upto_region 9 with fail);refine wp_region_held_drew (S:=(fun W=>(zcc W xb 0 (.int .i64 (h.f:Int))∧zcc W xb 1 (.int .i64 (h.t:Int))∧zcc W xb 2 (.int .i64 h.c))∧(zcc W m.b 0 (.int .i64 (m.p:Int))∧zcc W m.b 1 (.int .i64 (m.o:Int))∧zcc W m.b 2 (.int .i64 m.s)∧zcc W m.b 3 (ptrT q')))) (by kernel_rfl) (⟨zaf (za kb2 vv),zr (za kM vv)⟩) (fun hHeld => ?_);refine kK 0 q96 ?_;refine kK 1 q97 ?_;refine kK 2 q98 ?_;refine kK 3 q99 ?_;refine kK 4 q100 ?_;refine kK 5 q101 ?_;refine kK 6 q102 ?_;refine kV 7 q103 (.bool false) ?_;refine wpAnyH_done (by kernel_rfl) ?_ _;clear hHeld;have kM:=za kM vv;obtain ⟨z0,z1,z2,z3⟩:=zr kM;have HBQ:=hide (zc hbq vv);clear kM vv hbq kb2;go_wp2
       go_roundg q'.length
       case measure=>have:=hgk; simp only [List.length_cons] at this; omega
       case rel=>exact ⟨pre++[m],q',rfl,Nat.le_refl _,by rw [List.append_assoc]; exact HPQ.out,HPM.out,HBQ.out⟩
     | nil =>
      replace hv:u10=.pointer none:=hv
      subst hv;rw [List.append_nil] at hpq;have HNI:Hid (h.f∉(n::r).map TN.p):=hide (fun hm=>by
       rw [← hpq] at hm;obtain ⟨y,h1,h2⟩:=List.mem_map.1 hm;exact hpre y h1 h2)
      have hb:=zc hb hbq;have ow:=zi ow hbq;have hla:∀t∈L,Laid wr t:=fun t ht=>(hla t ht).below hbq
      have kb:=za kb hbq;have kT:=za kT hbq;have kN:=za k1 hb;have HOWL:Hid (∀b,(Value.slice ao L.length cap).ownBlock=some b→b < wr.heap.size):=hide (fun b hb2=>(ow.lt b hb2).2);have HNL:Hid (w.heap.size < wr.heap.size):=hide (Array.getElem?_eq_some_iff.1 kN).1;have HTL:Hid (n.b < wr.heap.size):=hide (Array.getElem?_eq_some_iff.1 kT).1;have HBL:Hid (xb < wr.heap.size):=hide (Array.getElem?_eq_some_iff.1 kb).1;have HW1:Hid (w1.heap.size≤wr.heap.size):=hide hb.size;have hor:=ziX ho HSM.out.1;have vv:Below wr.heap.size wr wr.drew:=zG (Below.refl _ _);clear hpq hpre hbq hgk;(go_upto_region 10 with fail);refine wp_region_held_drew (S:=(fun W=>(zcc W w.heap.size 0 (.slice N.ba N.bn N.bc)∧zcc W w.heap.size 1 (.slice N.la N.ln N.lc)∧zcc W w.heap.size 2 (.slice N.sa N.sn N.sc))∧(zcc W n.b 0 (.int .i64 (n.p:Int))∧zcc W n.b 1 (.int .i64 (n.o:Int))∧zcc W n.b 2 (.int .i64 n.s)∧zcc W n.b 3 (ptrT r))∧(zcc W xb 0 (.int .i64 (h.f:Int))∧zcc W xb 1 (.int .i64 (h.t:Int))∧zcc W xb 2 (.int .i64 h.c)))) (by kernel_rfl) ((by first | exact HS2.out | exact ⟨zd (za kN vv),zr (za kT vv),zaf (za kb vv)⟩)) (fun hHeld => ?_);refine kK 0 ⟨some 41,.fieldAddr 157 (.tmp 9) 0,0,"l16_true.go:125",#[],none⟩ ?_;refine kK 1 ⟨some 42,.load 3 (.tmp 41),3,"l16_true.go:125",#[⟨0,.data⟩],none⟩ ?_;refine kK 2 ⟨some 43,.move (.tmp 0),123,"l16_true.go:125",#[],none⟩ ?_;refine kK 3 ⟨some 44,.nilCheck (.tmp 43),0,"l16_true.go:125",#[⟨2,.data⟩],none⟩ ?_;refine kK 4 ⟨some 45,.fieldAddr 127 (.tmp 44) 0,0,"l16_true.go:125",#[⟨3,.data⟩],none⟩ ?_;refine kK 5 ⟨some 46,.fieldAddr 125 (.tmp 45) 1,0,"l16_true.go:125",#[⟨4,.data⟩],none⟩ ?_;refine kK 6 ⟨some 47,.load 3 (.tmp 46),3,"l16_true.go:125",#[⟨5,.data⟩],none⟩ ?_;refine kK 7 ⟨some 48,.load 28 (.tmp 4),28,"l16_true.go:125",#[],none⟩ ?_;refine kK 8 ⟨some 49,.fieldAddr 157 (.tmp 9) 0,0,"l16_true.go:125",#[],none⟩ ?_;refine kK 9 ⟨some 50,.load 3 (.tmp 49),3,"l16_true.go:125",#[⟨8,.data⟩],none⟩ ?_;refine tR [10,13] ?_;refine AllReadyH.cons (o:=q104) rfl (fun K hK => ?_) ?_
      ·go_simp;clear hHeld;refine (zeg N h.f _ hbn HSM.out.1).mono ?_;rintro e wt ⟨rfl,hbt⟩;have vv:=zc vv hbt;(try have kS:=za kS hbt);clear hbt;(go_wp2_with fail);refine kO hK ((by first | exact HS2.out | exact ⟨zd (za kN vv),zr (za kT vv),zaf (za kb vv)⟩)) fun hHeld => ?_
       clear hK K;refine kK 11 q105 ?_;refine kK 12 q106 ?_;refine kR 13 q107 (fun K hK => ?_);go_simp;have HXS:=hide vv.size
       first
       | refine zw (K:=K _) (fun wx kS hbx => ?_)
       | refine zq (K:=K _) (fun wx kS hbx => ?_)
       have vv:=zc vv hbx;clear hbx hHeld;refine kO hK ((by first | exact HS2.out | exact ⟨zd (za kN vv),zr (za kT vv),zaf (za kb vv)⟩)) fun hHeld => ?_
       clear hK K;refine kR 14 q108 (fun K hK => ?_);obtain ⟨⟨p0,p1⟩,f0,f1⟩:=zbP kS;go_simp;clear p0 p1 f0 f1;refine zI (K:=K _) kS _ _ (fun wq kQ gq => ?_);have kN:=ze (za kN vv) gq (by intro j e; cases e; have:=HXS.out; have:=HNL.out; (try simp only [World.size_drew] at *); omega);have kT:=ze (za kT vv) gq (by intro j e; cases e; have:=HXS.out; have:=HTL.out; (try simp only [World.size_drew] at *); omega);have kb:=ze (za kb vv) gq (by intro j e; cases e; have:=HXS.out; have:=HBL.out; (try simp only [World.size_drew] at *); omega);have HS2:=hide (And.intro (zd kN) (And.intro (zr kT) (zaf kb)));have ow:=zo (zi ow vv) gq (fun b hb2=>by have:=HOWL.out b hb2; have:=HXS.out; (try simp only [World.size_drew] at *); omega);have hla:∀t∈L,Laid wq t:=fun t ht=>((hla t ht).below vv).grown gq (fun j e cs hc=>by cases e; rw [kS] at hc; simp at hc)
       have bQ:Below w1.heap.size w1 wq:=((zc hb vv).grown gq (zc hb vv).size (fun k e=>by cases e; have:=HXS.out; have:=HW1.out; (try simp only [World.size_drew] at *); omega));refine kO hK ((by first | exact HS2.out | exact ⟨zd (za kN vv),zr (za kT vv),zaf (za kb vv)⟩)) fun hHeld => ?_
       clear hK K;refine wpAnyH_done (by kernel_rfl) ?_ _;clear hHeld hb HS2;obtain ⟨XX,hXX⟩:=zfX kQ;(try simp only [World.size_drew] at hXX kQ);(try rw [← hXX]);rw [← hXX] at kQ;clear hXX kS gq HXS;have vv:Below wq.heap.size wq wq.drew:=zG (Below.refl _ _);(go_wp2_with fail);refine wp_region_held_drew (S:=(fun W=>(zcc W XX 0 (.int .i64 (h.f:Int))∧zcc W XX 1 (.int .i64 ((n.o ||| 2 ^ h.f:Nat):Int)))∧(zcc W n.b 0 (.int .i64 (n.p:Int))∧zcc W n.b 1 (.int .i64 (n.o:Int))∧zcc W n.b 2 (.int .i64 n.s)∧zcc W n.b 3 (ptrT r))∧(zcc W xb 0 (.int .i64 (h.f:Int))∧zcc W xb 1 (.int .i64 (h.t:Int))∧zcc W xb 2 (.int .i64 h.c)))) (by kernel_rfl) ((by first | exact HS3.out | exact ⟨zl (za kQ vv),zr (za kT vv),zaf (za kb vv)⟩)) (fun hHeld => ?_);refine kK 0 q109 ?_;refine kK 1 q110 ?_;refine kK 2 q111 ?_;refine kK 3 q112 ?_;refine kK 4 q113 ?_;refine kK 5 q114 ?_;refine kK 6 q115 ?_;refine kK 7 q116 ?_;refine kK 9 q117 ?_;refine kR 8 q118 (fun K hK => ?_);go_simp;clear hHeld;refine (ze6 n.s h.c _ HSM.out.2.1 HSM.out.2.2).mono ?_;rintro e ws ⟨rfl,hbt⟩;have vv:=zc vv hbt;clear hbt;(go_wp2_with fail);refine kO hK ((by first | exact HS3.out | exact ⟨zl (za kQ vv),zr (za kT vv),zaf (za kb vv)⟩)) fun hHeld => ?_
       clear hK K;refine kK 10 q119 ?_;refine kR 11 q120 (fun K hK => ?_);go_simp;clear hHeld
       first
       | refine zw (K:=K _) (fun wx kX hbx => ?_)
       | refine zq (K:=K _) (fun wx kX hbx => ?_)
       have vv:=zc vv hbx;clear hbx;refine kO hK ((by first | exact HS3.out | exact ⟨zl (za kQ vv),zr (za kT vv),zaf (za kb vv)⟩)) fun hHeld => ?_
       clear hK K;refine kR 12 q121 (fun K hK => ?_);go_simp;clear hHeld
       first
       | refine zw (K:=K _) (fun wy kY hby => ?_)
       | refine zq (K:=K _) (fun wy kY hby => ?_)
       have vv:=zc vv hby;have kX:=za kX hby;clear hby;refine kO hK ((by first | exact HS3.out | exact ⟨zl (za kQ vv),zr (za kT vv),zaf (za kb vv)⟩)) fun hHeld => ?_
       clear hK K;refine kR 13 q122 (fun K hK => ?_);clear hHeld;have gn1:GRow trF wy (some ⟨_,0,none⟩) 1 1 [((⟨ws.heap.size,h.f,n.o ||| 2 ^ h.f,n.s+h.c⟩::n::r):List TN)]:=zA (F:=trF) (zaC trF (l:=[((⟨ws.heap.size,h.f,n.o ||| 2 ^ h.f,n.s+h.c⟩::n::r):List TN)]) (base:=0) kY rfl (Nat.zero_le _) (by simp));have owN:=zi ow vv;refine zh (F:=trF) rfl _ _ 131 123 rfl w1.heap.size Tryz.underlying131 zgi rfl (by decide) _ L.length L rfl owN _ 1 1 _ rfl gn1 (by have:=HLL.out; omega) (Nat.le_trans bQ.size vv.size) ?_;intro aL cL wL how _ hgr hbL;have kXL:=ze kX hgr (zaa owN kX (by decide));have kQL:=ze (za kQ vv) hgr (zaa owN (za kQ vv) (by decide));have kTL:=ze (za kT vv) hgr (zaa owN (za kT vv) (by decide));have kbL:=ze (za kb vv) hgr (zaa owN (za kb vv) (by decide));have HS3:=hide (And.intro (zl kQL) (And.intro (zr kTL) (zaf kbL)));have bQL:=(zc bQ vv).trans hbL;have HLA:Hid (∀t∈L++[((⟨ws.heap.size,h.f,n.o ||| 2 ^ h.f,n.s+h.c⟩::n::r):List TN)],Laid wL t):=hide (fun t ht=>by
        rcases List.mem_append.1 ht with ht | ht
        ·exact ((hla t ht).below vv).grown hgr (fun j e cs hc=>zaa owN hc (by decide) j e rfl)
        ·rw [List.mem_singleton] at ht;subst ht;exact ⟨kXL,HLD.out.below (zc b01 bQL)⟩)
       refine kO hK ((by first | exact HS3.out | exact ⟨zl (za kQ vv),zr (za kT vv),zaf (za kb vv)⟩)) fun hHeld => ?_
       clear hK K;refine kK 14 q123 ?_;refine wpAnyH_done (by kernel_rfl) ?_ _;have HLO:=hide (hLO.more HX.out HTP.out HNI.out (ws.heap.size));have HLL2:Hid ((L++[((⟨ws.heap.size,h.f,n.o ||| 2 ^ h.f,n.s+h.c⟩::n::r):List TN)]).length=L.length+1):=hide (by rw [List.length_append]; rfl);have HOW:Hid (wL.ownsRow w1.heap.size 123 1 (.slice aL (L++[((⟨ws.heap.size,h.f,n.o ||| 2 ^ h.f,n.s+h.c⟩::n::r):List TN)]).length cL) (L++[((⟨ws.heap.size,h.f,n.o ||| 2 ^ h.f,n.s+h.c⟩::n::r):List TN)]).length (trF.all (L++[((⟨ws.heap.size,h.f,n.o ||| 2 ^ h.f,n.s+h.c⟩::n::r):List TN)]))):=hide (by rw [HLL2.out]; exact how);have HB:=hide bQL;clear hHeld hLO how hgr hbL owN kX kY kXL kQL kTL kbL gn1 vv ow hla kQ kT kb kN bQ bQL;go_wp2
       go_roundw
       case rel=>exact ⟨k+1,aL,cL,L++[(⟨ws.heap.size,h.f,n.o ||| 2 ^ h.f,n.s+h.c⟩::n::r)],by omega,by go_num,by rw [HLL2.out],HLO.out,HOW.out,HLA.out,HB.out⟩
       case measure=>simp [intOf]; omega
      refine AllReadyH.cons (o:=q107) rfl (fun K hK => ?_) ?_
      ·go_simp;have HXS:=hide vv.size
       first
       | refine zw (K:=K _) (fun wx kS hbx => ?_)
       | refine zq (K:=K _) (fun wx kS hbx => ?_)
       have vv:=zc vv hbx;clear hbx hHeld;refine kO hK ((by first | exact HS2.out | exact ⟨zd (za kN vv),zr (za kT vv),zaf (za kb vv)⟩)) fun hHeld => ?_
       clear hK K;refine kR 10 q104 (fun K hK => ?_);go_simp;clear hHeld;refine (zeg N h.f _ hbn HSM.out.1).mono ?_;rintro e wt ⟨rfl,hbt⟩;have vv:=zc vv hbt;(try have kS:=za kS hbt);clear hbt;(go_wp2_with fail);refine kO hK ((by first | exact HS2.out | exact ⟨zd (za kN vv),zr (za kT vv),zaf (za kb vv)⟩)) fun hHeld => ?_
       clear hK K;refine kK 11 q105 ?_;refine kK 12 q106 ?_;refine kR 14 q108 (fun K hK => ?_);obtain ⟨⟨p0,p1⟩,f0,f1⟩:=zbP kS;go_simp;clear p0 p1 f0 f1;refine zI (K:=K _) kS _ _ (fun wq kQ gq => ?_);have kN:=ze (za kN vv) gq (by intro j e; cases e; have:=HXS.out; have:=HNL.out; (try simp only [World.size_drew] at *); omega);have kT:=ze (za kT vv) gq (by intro j e; cases e; have:=HXS.out; have:=HTL.out; (try simp only [World.size_drew] at *); omega);have kb:=ze (za kb vv) gq (by intro j e; cases e; have:=HXS.out; have:=HBL.out; (try simp only [World.size_drew] at *); omega);have HS2:=hide (And.intro (zd kN) (And.intro (zr kT) (zaf kb)));have ow:=zo (zi ow vv) gq (fun b hb2=>by have:=HOWL.out b hb2; have:=HXS.out; (try simp only [World.size_drew] at *); omega);have hla:∀t∈L,Laid wq t:=fun t ht=>((hla t ht).below vv).grown gq (fun j e cs hc=>by cases e; rw [kS] at hc; simp at hc)
       have bQ:Below w1.heap.size w1 wq:=((zc hb vv).grown gq (zc hb vv).size (fun k e=>by cases e; have:=HXS.out; have:=HW1.out; (try simp only [World.size_drew] at *); omega));refine kO hK ((by first | exact HS2.out | exact ⟨zd (za kN vv),zr (za kT vv),zaf (za kb vv)⟩)) fun hHeld => ?_
       clear hK K;refine wpAnyH_done (by kernel_rfl) ?_ _;clear hHeld hb HS2;obtain ⟨XX,hXX⟩:=zfX kQ;(try simp only [World.size_drew] at hXX kQ);(try rw [← hXX]);rw [← hXX] at kQ;clear hXX kS gq HXS;have vv:Below wq.heap.size wq wq.drew:=zG (Below.refl _ _);(go_wp2_with fail);refine wp_region_held_drew (S:=(fun W=>(zcc W XX 0 (.int .i64 (h.f:Int))∧zcc W XX 1 (.int .i64 ((n.o ||| 2 ^ h.f:Nat):Int)))∧(zcc W n.b 0 (.int .i64 (n.p:Int))∧zcc W n.b 1 (.int .i64 (n.o:Int))∧zcc W n.b 2 (.int .i64 n.s)∧zcc W n.b 3 (ptrT r))∧(zcc W xb 0 (.int .i64 (h.f:Int))∧zcc W xb 1 (.int .i64 (h.t:Int))∧zcc W xb 2 (.int .i64 h.c)))) (by kernel_rfl) ((by first | exact HS3.out | exact ⟨zl (za kQ vv),zr (za kT vv),zaf (za kb vv)⟩)) (fun hHeld => ?_);refine kK 0 q109 ?_;refine kK 1 q110 ?_;refine kK 2 q111 ?_;refine kK 3 q112 ?_;refine kK 4 q113 ?_;refine kK 5 q114 ?_;refine kK 6 q115 ?_;refine kK 7 q116 ?_;refine kK 9 q117 ?_;refine kR 8 q118 (fun K hK => ?_);go_simp;clear hHeld;refine (ze6 n.s h.c _ HSM.out.2.1 HSM.out.2.2).mono ?_;rintro e ws ⟨rfl,hbt⟩;have vv:=zc vv hbt;clear hbt;(go_wp2_with fail);refine kO hK ((by first | exact HS3.out | exact ⟨zl (za kQ vv),zr (za kT vv),zaf (za kb vv)⟩)) fun hHeld => ?_
       clear hK K;refine kK 10 q119 ?_;refine kR 11 q120 (fun K hK => ?_);go_simp;clear hHeld
       first
       | refine zw (K:=K _) (fun wx kX hbx => ?_)
       | refine zq (K:=K _) (fun wx kX hbx => ?_)
       have vv:=zc vv hbx;clear hbx;refine kO hK ((by first | exact HS3.out | exact ⟨zl (za kQ vv),zr (za kT vv),zaf (za kb vv)⟩)) fun hHeld => ?_
       clear hK K;refine kR 12 q121 (fun K hK => ?_);go_simp;clear hHeld
       first
       | refine zw (K:=K _) (fun wy kY hby => ?_)
       | refine zq (K:=K _) (fun wy kY hby => ?_)
       have vv:=zc vv hby;have kX:=za kX hby;clear hby;refine kO hK ((by first | exact HS3.out | exact ⟨zl (za kQ vv),zr (za kT vv),zaf (za kb vv)⟩)) fun hHeld => ?_
       clear hK K;refine kR 13 q122 (fun K hK => ?_);clear hHeld;have gn1:GRow trF wy (some ⟨_,0,none⟩) 1 1 [((⟨ws.heap.size,h.f,n.o ||| 2 ^ h.f,n.s+h.c⟩::n::r):List TN)]:=zA (F:=trF) (zaC trF (l:=[((⟨ws.heap.size,h.f,n.o ||| 2 ^ h.f,n.s+h.c⟩::n::r):List TN)]) (base:=0) kY rfl (Nat.zero_le _) (by simp));have owN:=zi ow vv;refine zh (F:=trF) rfl _ _ 131 123 rfl w1.heap.size Tryz.underlying131 zgi rfl (by decide) _ L.length L rfl owN _ 1 1 _ rfl gn1 (by have:=HLL.out; omega) (Nat.le_trans bQ.size vv.size) ?_;intro aL cL wL how _ hgr hbL;have kXL:=ze kX hgr (zaa owN kX (by decide));have kQL:=ze (za kQ vv) hgr (zaa owN (za kQ vv) (by decide));have kTL:=ze (za kT vv) hgr (zaa owN (za kT vv) (by decide));have kbL:=ze (za kb vv) hgr (zaa owN (za kb vv) (by decide));have HS3:=hide (And.intro (zl kQL) (And.intro (zr kTL) (zaf kbL)));have bQL:=(zc bQ vv).trans hbL;have HLA:Hid (∀t∈L++[((⟨ws.heap.size,h.f,n.o ||| 2 ^ h.f,n.s+h.c⟩::n::r):List TN)],Laid wL t):=hide (fun t ht=>by
        rcases List.mem_append.1 ht with ht | ht
        ·exact ((hla t ht).below vv).grown hgr (fun j e cs hc=>zaa owN hc (by decide) j e rfl)
        ·rw [List.mem_singleton] at ht;subst ht;exact ⟨kXL,HLD.out.below (zc b01 bQL)⟩)
       refine kO hK ((by first | exact HS3.out | exact ⟨zl (za kQ vv),zr (za kT vv),zaf (za kb vv)⟩)) fun hHeld => ?_
       clear hK K;refine kK 14 q123 ?_;refine wpAnyH_done (by kernel_rfl) ?_ _;have HLO:=hide (hLO.more HX.out HTP.out HNI.out (ws.heap.size));have HLL2:Hid ((L++[((⟨ws.heap.size,h.f,n.o ||| 2 ^ h.f,n.s+h.c⟩::n::r):List TN)]).length=L.length+1):=hide (by rw [List.length_append]; rfl);have HOW:Hid (wL.ownsRow w1.heap.size 123 1 (.slice aL (L++[((⟨ws.heap.size,h.f,n.o ||| 2 ^ h.f,n.s+h.c⟩::n::r):List TN)]).length cL) (L++[((⟨ws.heap.size,h.f,n.o ||| 2 ^ h.f,n.s+h.c⟩::n::r):List TN)]).length (trF.all (L++[((⟨ws.heap.size,h.f,n.o ||| 2 ^ h.f,n.s+h.c⟩::n::r):List TN)]))):=hide (by rw [HLL2.out]; exact how);have HB:=hide bQL;clear hHeld hLO how hgr hbL owN kX kY kXL kQL kTL kbL gn1 vv ow hla kQ kT kb kN bQ bQL;go_wp2
       go_roundw
       case rel=>exact ⟨k+1,aL,cL,L++[(⟨ws.heap.size,h.f,n.o ||| 2 ^ h.f,n.s+h.c⟩::n::r)],by omega,by go_num,by rw [HLL2.out],HLO.out,HOW.out,HLA.out,HB.out⟩
       case measure=>simp [intOf]; omega
      exact AllReadyH.nil
   ·have HNE:=hide het;have e1:¬(h.t:Int)=(n.p:Int):=by omega
    clear het;refine wp_region_held_drew (S:=(fun W=>(zcc W xb 0 (.int .i64 (h.f:Int))∧zcc W xb 1 (.int .i64 (h.t:Int))∧zcc W xb 2 (.int .i64 h.c))∧(zcc W n.b 0 (.int .i64 (n.p:Int))∧zcc W n.b 1 (.int .i64 (n.o:Int))∧zcc W n.b 2 (.int .i64 n.s)∧zcc W n.b 3 (ptrT r)))) (by kernel_rfl) (⟨zaf (za kb vv),zr (za kT vv)⟩) (fun hHeld => ?_);refine kK 0 q88 ?_;refine kK 1 q89 ?_;refine kK 2 q90 ?_;refine kK 3 q91 ?_;refine kK 4 q92 ?_;refine kK 5 q93 ?_;refine kK 6 q94 ?_;refine kV 7 q95 (.bool true) ?_;refine wpAnyH_done (by kernel_rfl) ?_ _;clear hHeld;have HLO:=hide (hLO.skip HX.out (.inl HNE.out));have HOW:=hide (zi ow vv);have HLA:=hide (fun t ht=>(hla t ht).below vv);have HB:=hide (zc hb vv);clear hLO ow hla hb kb kT;go_wp2
    go_roundw
    case rel=>exact ⟨k+1,ao,cap,L,by omega,by go_num,rfl,HLO.out,HOW.out,HLA.out,HB.out⟩
    case measure=>simp [intOf]; omega
  ·have hke:k=hn:=by omega
   subst hke;have HLO:Hid (zbI n r H L):=hide (by have:=hLO; rw [List.take_of_length_le (by rw [HLEN.out]; exact Nat.le_refl _)] at this; exact this);have HOW:=hide (zB ow b01.size);have HLA:=hide hla;have HB:=hide (zc b01 hb);clear hLO ow hla hb;go_wp2;(try rw [Exit.noGoto_ret]);go_ret;exact ⟨ao,cap,L,rfl,HLO.out,HOW.out,HLA.out,HB.out⟩

def BV.blks (x:BV):List Nat:=blkL x.a++(blkL x.fa++(blkL x.ra++blkL x.oa))

theorem zbA {x:BV} {b:Nat}:b∈x.blks↔b∈blkL x.a∨b∈blkL x.fa∨b∈blkL x.ra∨b∈blkL x.oa:=by
 unfold BV.blks; simp [List.mem_append]

theorem BV.Own.blk {w:World} {base:Nat} {x:BV} (h:x.Own w base):∀b∈x.blks,base≤b∧b < w.heap.size:=by
 intro b hb;rcases zbA.1 hb with hb | hb | hb | hb
 ·exact h.ports.lt b (zV.2 hb)
 ·exact h.f.lt b (zV.2 hb)
 ·exact h.v.rows.lt b (zV.2 hb)
 ·exact h.v.own.lt b (zV.2 hb)

theorem BV.Own.only {bs:List Nat} {w w':World} {base:Nat} {x:BV} (h:x.Own w base) (ho:Only bs w w') (hn:∀b∈x.blks,b∉bs):x.Own w' base :=
 ⟨ho.own h.ports (fun k hk=>hn k (zbA.2 (.inl (zV.1 hk)))),ho.own h.f (fun k hk=>hn k (zbA.2 (.inr (.inl (zV.1 hk))))),
  ⟨ho.own h.v.rows (fun k hk=>hn k (zbA.2 (.inr (.inr (.inl (zV.1 hk)))))),ho.own h.v.own (fun k hk=>hn k (zbA.2 (.inr (.inr (.inr (zV.1 hk)))))),h.v.i64⟩⟩

theorem zb3 (a:Option Addr):(blkL a).Nodup:=by cases a <;> simp [blkL]

theorem BV.Own.nd {w:World} {base:Nat} {x:BV} (h:x.Own w base):x.blks.Nodup:=by
 unfold BV.blks;have d:∀{e e':TypeId} {s s' n n' m m' c c':Nat} {a a':Option Addr} {xs xs':List Value},w.ownsRow base e s (.slice a n c) m xs→w.ownsRow base e' s' (.slice a' n' c') m' xs'→e≠e'→∀b∈blkL a,b∉blkL a':=fun h h' hne b hb hc=>zbm h h' hne (zV.2 hb) (zV.2 hc)
 have h12:=d h.ports h.f (by decide);have h13:=d h.ports h.v.rows (by decide);have h14:=d h.ports h.v.own (by decide);have h23:=d h.f h.v.rows (by decide);have h24:=d h.f h.v.own (by decide);have h34:=d h.v.rows h.v.own (by decide);refine List.nodup_append.2 ⟨zb3 _,List.nodup_append.2 ⟨zb3 _,List.nodup_append.2 ⟨zb3 _,zb3 _, ?_⟩, ?_⟩, ?_⟩
 ·intro a ha b hb e; subst e; exact h34 a ha hb
 ·intro a ha b hb e; subst e
  rcases List.mem_append.1 hb with hb | hb
  ·exact h23 a ha hb
  ·exact h24 a ha hb
 ·intro a ha b hb e; subst e
  rcases List.mem_append.1 hb with hb | hb
  ·exact h12 a ha hb
  ·rcases List.mem_append.1 hb with hb | hb
   ·exact h13 a ha hb
   ·exact h14 a ha hb

structure BOs (w:World) (base:Nat) (ao:Option Addr) (n cap:Nat) (l:List BV):Prop where
 row:w.ownsRow base 44 11 (.slice ao n cap) n (brF.all l)
 item:∀x∈l,x.Own w base
 apart:(l.flatMap BV.blks).Nodup

def allB (ao:Option Addr) (l:List BV):List Nat:=blkL ao++l.flatMap BV.blks

theorem BOs.grow {w:World} {base:Nat} {ao:Option Addr} {n cap:Nat} {l:List BV} (h:BOs w base ao n cap l):GRow brF w ao n cap l:=zA (F:=brF) h.row
theorem BOs.below {w w':World} {base:Nat} {ao:Option Addr} {n cap:Nat} {l:List BV} (h:BOs w base ao n cap l) (hb:Below w.heap.size w w'):BOs w' base ao n cap l :=
 ⟨zgH h.row hb,fun x hx=>(h.item x hx).below hb,h.apart⟩
theorem BOs.lt {w:World} {base base':Nat} {ao:Option Addr} {n cap:Nat} {l:List BV} (h:BOs w base ao n cap l) (hb:base'≤base):BOs w base' ao n cap l :=
 ⟨ziY h.row hb,fun x hx=>(h.item x hx).lt hb,h.apart⟩
theorem BOs.only {bs:List Nat} {w w':World} {base:Nat} {ao:Option Addr} {n cap:Nat} {l:List BV} (h:BOs w base ao n cap l) (ho:Only bs w w') (hn:∀b∈allB ao l,b∉bs):BOs w' base ao n cap l :=
 ⟨ho.own h.row (fun k hk=>hn k (List.mem_append_left _ (zV.1 hk))),fun x hx=>(h.item x hx).only ho (fun b hb=>hn b (List.mem_append_right _ (List.mem_flatMap.2 ⟨x,hx,hb⟩))),h.apart⟩
theorem BOs.blk {w:World} {base:Nat} {ao:Option Addr} {n cap:Nat} {l:List BV} (h:BOs w base ao n cap l):∀b∈allB ao l,base≤b∧b < w.heap.size:=by
 intro b hb;rcases List.mem_append.1 hb with hb | hb
 ·exact h.row.lt b (zV.2 hb)
 ·obtain ⟨x,hx,hb⟩:=List.mem_flatMap.1 hb;exact (h.item x hx).blk b hb

theorem BV.Own.row_apart {w:World} {base base':Nat} {ao:Option Addr} {n cap:Nat} {xs:List Value} (hr:w.ownsRow base' 44 11 (.slice ao n cap) n xs) {x:BV} (h:x.Own w base):∀b∈x.blks,b∉blkL ao:=by
 intro b hb hc;rcases zbA.1 hb with hb | hb | hb | hb
 ·exact zbm h.ports hr (by decide) (zV.2 hb) (zV.2 hc)
 ·exact zbm h.f hr (by decide) (zV.2 hb) (zV.2 hc)
 ·exact zbm h.v.rows hr (by decide) (zV.2 hb) (zV.2 hc)
 ·exact zbm h.v.own hr (by decide) (zV.2 hb) (zV.2 hc)

theorem zcJ {pre post:List BV} {x:BV} (h:((pre++x::post).flatMap BV.blks).Nodup):∀y,y∈pre∨y∈post→∀b∈y.blks,b∉x.blks:=by
 rw [List.flatMap_append,List.flatMap_cons] at h;obtain ⟨h1,h2,h3⟩:=List.nodup_append.1 h;obtain ⟨h4,h5,h6⟩:=List.nodup_append.1 h2;intro y hy b hb hx;rcases hy with hy | hy
 ·exact h3 b (List.mem_flatMap.2 ⟨y,hy,hb⟩) b (List.mem_append_left _ hx) rfl
 ·exact h6 b hx b (List.mem_flatMap.2 ⟨y,hy,hb⟩) rfl

theorem zfD {pre post:List BV} {x y:BV} (h:y∈pre∨y∈post):y∈pre++x::post:=by
 rcases h with h | h
 ·exact List.mem_append_left _ h
 ·exact List.mem_append_right _ (List.mem_cons_of_mem _ h)

theorem BOs.turn {bs:List Nat} {w w':World} {base:Nat} {ao:Option Addr} {n cap:Nat} {pre post:List BV} {x x':BV} (h:BOs w base ao n cap (pre++x::post)) (hb:∀y,y∈pre∨y∈post→∀b∈y.blks,b∉x'.blks) (ho:Only bs w w') (hs:∀b∈bs,b∈x.blks∨b∈blkL ao)
  (hr:w'.ownsRow base 44 11 (.slice ao n cap) n (brF.all (pre++x'::post))) (hx:x'.Own w' base):BOs w' base ao n cap (pre++x'::post) where
 row:=hr
 item:=by
  intro y hy;have hm:=zcJ h.apart;have keep:(y∈pre∨y∈post)→y.Own w' base:=fun hy=>(h.item y (zfD hy)).only ho (fun b hb hbs=>by
   rcases hs b hbs with h1 | h1
   ·exact hm y hy b hb h1
   ·exact BV.Own.row_apart h.row (h.item y (zfD hy)) b hb h1)
  rcases List.mem_append.1 hy with hy | hy
  ·exact keep (.inl hy)
  ·rcases List.mem_cons.1 hy with rfl | hy
   ·exact hx
   ·exact keep (.inr hy)
 apart:=by
  have ha:=h.apart;rw [List.flatMap_append,List.flatMap_cons] at ha ⊢;obtain ⟨h1,h2,h3⟩:=List.nodup_append.1 ha;obtain ⟨-,h5,-⟩:=List.nodup_append.1 h2;refine List.nodup_append.2 ⟨h1,List.nodup_append.2 ⟨hx.nd,h5, ?_⟩, ?_⟩
  ·intro a ha b hb' e;subst e;obtain ⟨z,hz,hb'⟩:=List.mem_flatMap.1 hb';exact hb z (.inr hz) a hb' ha
  ·intro a ha b hb' e;subst e;rcases List.mem_append.1 hb' with hb' | hb'
   ·obtain ⟨z,hz,ha⟩:=List.mem_flatMap.1 ha;exact hb z (.inl hz) a ha hb'
   ·exact h3 a ha a (List.mem_append_right _ hb') rfl

theorem BOs.put {w w1 w':World} {base g n cap:Nat} {pre post:List BV} {x y:BV} (h:BOs w base (some ⟨g,0,none⟩) n cap (pre++x::post)) (hb:Below w.heap.size w w1) (hy:y.Own w1 w.heap.size) (hbs:base≤w.heap.size) (hg:w1.grownBy w' (some g))
  (hr:w'.ownsRow base 44 11 (.slice (some ⟨g,0,none⟩) n cap) n (brF.all (pre++y::post))):BOs w' base (some ⟨g,0,none⟩) n cap (pre++y::post):=by
 have O:Only [g] w1 w':=by have:=Only.of_grown (ao:=some ⟨g,0,none⟩) (n:=n) (c:=cap) hg; simpa [blkL] using this
 have hgl:g < w.heap.size:=(h.row.lt g rfl).2;refine (h.below hb).turn (bs:=[g]) ?_ O (fun b hb'=>.inr (by simpa [blkL] using hb')) hr ((hy.only O (fun b hb' hc=>by have:=(hy.blk b hb').1; simp at hc; omega)).lt hbs);intro z hz b hb1 hb2;have h1:=((h.item z (zfD hz)).blk b hb1).2;have h2:=(hy.blk b hb2).1;omega

theorem BOs.push {w w1 w':World} {base:Nat} {ao ao':Option Addr} {n cap cap':Nat} {l:List BV} {y:BV} (h:BOs w base ao n cap l) (hb:Below w.heap.size w w1) (hy:y.Own w1 w.heap.size) (hbs:base≤w.heap.size) (hg:w1.grownBy w' (Value.slice ao n cap).ownBlock)
  (hr:w'.ownsRow base 44 11 (.slice ao' (n+1) cap') (n+1) (brF.all (l++[y]))):BOs w' base ao' (n+1) cap' (l++[y]):=by
 have O:=Only.of_grown hg;have hk:=h.below hb;have hlt:=h.row.lt;refine ⟨hr, ?_, ?_⟩
 ·intro z hz;rcases List.mem_append.1 hz with hz | hz
  ·exact (hk.item z hz).only O (BV.Own.row_apart hk.row (hk.item z hz))
  ·rw [List.mem_singleton.1 hz];exact (hy.only O (fun b hb' hc=>by have h1:=(hy.blk b hb').1; have h2:=(hlt b (zV.2 hc)).2; omega)).lt hbs
 ·rw [List.flatMap_append];refine List.nodup_append.2 ⟨h.apart,by simpa using hy.nd, ?_⟩;intro a ha b hb' e;subst e;obtain ⟨z,hz,ha⟩:=List.mem_flatMap.1 ha;have h1:=((h.item z hz).blk a ha).2;have h2:=(hy.blk a (by simpa using hb')).1;omega

theorem zaz (w:World) (base:Nat):BOs w base none 0 0 []:=⟨World.ownsRow_nil _ _ _ _,(by intro x hx; cases hx),List.nodup_nil⟩

structure zaM (w:World) (base:Nat) (M:NV):Prop where
 b:BOs w base M.ba M.bn M.bc M.bs
 l:w.ownsRow base 66 4 (.slice M.la M.ln M.lc) M.ln (linkF.all M.ls)
 s:M.sa=none∧M.sn=0∧M.sc=0∧M.ss=[]

theorem zaM.row {w:World} {base:Nat} {M:NV} (h:zaM w base M):zac w M :=
 ⟨h.b.grow,fun x hx=>(h.b.item x hx).row,zA (F:=linkF) h.l,by rw [h.s.1,h.s.2.1,h.s.2.2.1,h.s.2.2.2]; exact zcp _ _⟩
theorem zaM.below {w w':World} {base:Nat} {M:NV} (h:zaM w base M) (hb:Below w.heap.size w w'):zaM w' base M:=⟨h.b.below hb,zi h.l hb,h.s⟩
theorem zaM.lt {w:World} {base base':Nat} {M:NV} (h:zaM w base M) (hb:base'≤base):zaM w base' M:=⟨h.b.lt hb,zB h.l hb,h.s⟩
theorem zaM.apart {w w':World} {base:Nat} {M:NV} (h:zaM w base M) {g:Nat} (hg:w.grownBy w' (some g)) (hlt:g < base):zaM w' base M:=by
 have O:Only [g] w w':=⟨hg.os,hg.tape,hg.output,hg.size,fun k hk hn=>hg.block k hk (by intro e; cases e; exact hn (by simp))⟩;exact ⟨h.b.only O (fun b hb hc=>by have:=(h.b.blk b hb).1; simp at hc; omega),O.own h.l (fun k hk hc=>by have:=(h.l.lt k hk).1; simp at hc; omega),h.s⟩

structure NOwn (w:World) (base:Nat) (M:NV):Prop where
 b:BOs w base M.ba M.bn M.bc M.bs
 l:w.ownsRow base 66 4 (.slice M.la M.ln M.lc) M.ln (linkF.all M.ls)
 s:w.ownsRow base 99 7 (.slice M.sa M.sn M.sc) M.sn (sayF.all M.ss)

theorem zaM.all {w:World} {base:Nat} {M:NV} (h:zaM w base M):NOwn w base M :=
 ⟨h.b,h.l,by rw [h.s.1,h.s.2.1,h.s.2.2.1,h.s.2.2.2]; exact World.ownsRow_nil _ _ _ _⟩
theorem NOwn.row {w:World} {base:Nat} {M:NV} (h:NOwn w base M):zac w M :=
 ⟨h.b.grow,fun x hx=>(h.b.item x hx).row,zA (F:=linkF) h.l,zA (F:=sayF) h.s⟩
theorem NOwn.below {w w':World} {base:Nat} {M:NV} (h:NOwn w base M) (hb:Below w.heap.size w w'):NOwn w' base M:=⟨h.b.below hb,zi h.l hb,zi h.s hb⟩
theorem NOwn.lt {w:World} {base base':Nat} {M:NV} (h:NOwn w base M) (hb:base'≤base):NOwn w base' M:=⟨h.b.lt hb,zB h.l hb,zB h.s hb⟩

end Go.Proofs.YtkaefmfopejbaaaGreat
