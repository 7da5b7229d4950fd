/-
  Packed: LeastI StepFit TreeNet TreeLive JoinX RootI.
-/
import Derived.Test.YtkaefmfopejbaaaGreatPVJoinR
import Derived.Test.YtkaefmfopejbaaaGreatPVK25
namespace Go.Proofs.YtkaefmfopejbaaaGreat
set_option maxRecDepth 100000
set_option maxHeartbeats 16000000
open Go.RowKit

abbrev q273:Oper:=⟨some 40,.move (.tmp 10),131,"l16_true.go:92",#[],none⟩
abbrev q274:Oper:=⟨some 41,.indexAddr 131 (.tmp 40) (.const (.int .i64 0)),0,"l16_true.go:92",#[⟨0,.data⟩],none⟩
abbrev q275:Oper:=⟨some 42,.load 123 (.tmp 41),123,"l16_true.go:92",#[⟨1,.data⟩],none⟩
abbrev q276:Oper:=⟨some 43,.nilCheck (.tmp 42),0,"l16_true.go:92",#[⟨2,.data⟩],none⟩
abbrev q277:Oper:=⟨some 44,.fieldAddr 127 (.tmp 43) 1,0,"l16_true.go:92",#[⟨3,.data⟩],none⟩
abbrev q278:Oper:=⟨some 45,.load 3 (.tmp 44),3,"l16_true.go:92",#[⟨4,.data⟩],none⟩
abbrev q279:Oper:=⟨some 46,.move (.tmp 8),128,"l16_true.go:92",#[],none⟩
abbrev q280:Oper:=⟨some 47,.move (.tmp 10),131,"l16_true.go:92",#[],none⟩
abbrev q281:Oper:=⟨some 48,.indexAddr 131 (.tmp 47) (.const (.int .i64 0)),0,"l16_true.go:92",#[⟨7,.data⟩],none⟩
abbrev q282:Oper:=⟨some 49,.load 123 (.tmp 48),123,"l16_true.go:92",#[⟨8,.data⟩],none⟩
abbrev q283:Oper:=⟨some 50,.nilCheck (.tmp 49),0,"l16_true.go:92",#[⟨9,.data⟩],none⟩
abbrev q284:Oper:=⟨some 51,.fieldAddr 127 (.tmp 50) 0,0,"l16_true.go:92",#[⟨10,.data⟩],none⟩
abbrev q285:Oper:=⟨some 52,.load 125 (.tmp 51),125,"l16_true.go:92",#[⟨11,.data⟩],none⟩
abbrev q286:Oper:=⟨some 53,.lookup 128 (.tmp 46) (.tmp 52) false,3,"l16_true.go:92",#[⟨6,.data⟩,⟨12,.data⟩],none⟩
abbrev q287:Oper:=⟨some 54,.binOp .gtr 3 (.tmp 45) (.tmp 53) 3,4,"l16_true.go:92",#[⟨5,.data⟩,⟨13,.data⟩],none⟩
abbrev q288:Oper:=⟨some 85,.move (.tmp 8),128,"l16_true.go:97",#[],none⟩
abbrev q289:Oper:=⟨some 86,.move (.tmp 12),123,"l16_true.go:97",#[],none⟩
abbrev q290:Oper:=⟨some 87,.nilCheck (.tmp 86),0,"l16_true.go:97",#[⟨1,.data⟩],none⟩
abbrev q291:Oper:=⟨some 88,.fieldAddr 127 (.tmp 87) 0,0,"l16_true.go:97",#[⟨2,.data⟩],none⟩
abbrev q292:Oper:=⟨some 89,.load 125 (.tmp 88),125,"l16_true.go:97",#[⟨3,.data⟩],none⟩
abbrev q293:Oper:=⟨some 90,.move (.tmp 12),123,"l16_true.go:97",#[],none⟩
abbrev q294:Oper:=⟨some 91,.nilCheck (.tmp 90),0,"l16_true.go:97",#[⟨5,.data⟩],none⟩
abbrev q295:Oper:=⟨some 92,.fieldAddr 127 (.tmp 91) 1,0,"l16_true.go:97",#[⟨6,.data⟩],none⟩
abbrev q296:Oper:=⟨some 93,.load 3 (.tmp 92),3,"l16_true.go:97",#[⟨7,.data⟩],none⟩
abbrev q297:Oper:=⟨none,.mapUpdate 128 (.tmp 85) (.tmp 89) (.tmp 93),0,"l16_true.go:97",#[⟨0,.data⟩,⟨4,.data⟩,⟨8,.data⟩,⟨0,.phase⟩,⟨1,.phase⟩,⟨2,.phase⟩,⟨3,.phase⟩,⟨4,.phase⟩,⟨5,.phase⟩,⟨6,.phase⟩,⟨7,.phase⟩,⟨8,.phase⟩],none⟩

theorem zeG:∀l:List (List TN),l.length≤wgts l
 | []=>Nat.zero_le _
 | t::l=>by
  have h1:=zeG l;have h2:=zeF t;rw [zb2,List.length_cons];omega

theorem zeP (N:NV) (ss:List SY) (hok:NetOk N.brs N.ls ss) (x b:Nat) (X:BR) (c:Int) (w:World) (h:zac w N) (hb:b < N.bn) (hX:N.brs[x]? = some X) (hl:Least (EdgeB N.brs N.ls) x b c) :
  Calls Tryz.prog 36 #[.agg #[.slice N.ba N.bn N.bc,.slice N.la N.ln N.lc,.slice N.sa N.sn N.sc],.int .i64 X.id,.int .i64 (b:Int)] w fun e w'=>e=.returned (.int .i64 c)∧Below w.heap.size w w':=by
 have hNL:N.brs.length=N.bn:=by rw [zbv]; exact h.b.size
 have HNL:=hide hNL;have HG:=hide (zd1 hok);have HLS:=hide hl;have HN6:Hid (N.bn≤6):=hide (by rw [← hNL]; exact hok.1.2.2.2);have hln:N.ln≤9:=by rw [← h.l.size]; exact hok.2.1.1
 have HHA0:Hid (zc9 N.brs N.ls (zam N.brs N.ls (upTo N.brs N.ls N.ln))):=hide (by rw [← h.l.size]; exact zh2 N.brs N.ls);have HHL0:Hid ((zam N.brs N.ls (upTo N.brs N.ls N.ln)).length≤18):=hide (by have h1:=zcM N.brs N.ls (upTo N.brs N.ls N.ln); have h2:=zcG N.brs N.ls N.ln; omega);have hbl:=Nat.le_trans h.b.le h.b.top;unfold maxLen at hbl;clear hl hNL;generalize hw1:w.alloc (Obj.cells #[.slice N.ba N.bn N.bc,.slice N.la N.ln N.lc,.slice N.sa N.sn N.sc] 28)=w1;have b01:=zb hw1;have k1:=zk hw1;obtain ⟨x0,x1,x2⟩:=zd k1;obtain ⟨OB,hOB⟩:∃OB:Nat,OB=2 ^ b:=⟨_,rfl⟩;have h6:=HN6.out;have hb6:b < 6:=by omega
 have HOB:=hide hOB;have hO64:OB < 64:=by rw [hOB]; exact Nat.lt_of_lt_of_le (Nat.pow_lt_pow_right (by omega) hb6) (by omega)
 have hbit:=fun W=>zeg N b W HN6.out hb6
 rw [show ((2:Int) ^ b)=(OB:Int) by rw [hOB]; simp] at hbit;have hmm:=@run_makeMap Tryz.prog;clear hOB;go_enter Tryz.func36,Tryz.ntmps36;go_wp2_with fail
 refine (hbit _).mono ?_;rintro e wA ⟨rfl,b1A⟩;clear x0 x1 x2 hbit hw1;generalize hwT:wA.alloc (Obj.cells #[.int .i64 (b:Int),.int .i64 (OB:Int),.int .i64 0,.pointer none] 127)=wT;have bAT:=zb hwT;have kT0:=zk hwT;have kT1:=za kT0 (zn wT (.map #[] 0));obtain ⟨t0,t1,t2,t3⟩:=zr kT0;obtain ⟨p0,p1,p2,p3⟩:=zr kT1;have hm0:=MapIs.made mS wT;have HTB:Hid (wA.heap.size < wT.heap.size):=hide (zp t0);have hsp:SpOk (b,OB):=⟨by show b≤1000; omega,by show OB≤1000; omega⟩;go_upto_region 2 with fail
 try rw [hwT]
 clear hwT;go_wp2_with (refine zc2 _ rfl _ _ _ rfl wT.heap.size 0 (fun _=>none) b OB 0 rfl hm0 (by unfold maxLen; omega) rfl rfl hsp ?_; intro w3 hM3 hg3; have b3:Below wT.heap.size wT w3:=(zn wT (.map #[] 0)).grown hg3 (by simp) (fun k e=>by cases e; exact Nat.le_refl _); have kN:=za k1 (zc b1A (zc bAT b3)); obtain ⟨x0,x1,x2⟩:=zd kN)
 have kT3:w3.heap[wA.heap.size]? = some (.cells #[.int .i64 (b:Int),.int .i64 (OB:Int),.int .i64 0,.pointer none] 127):=ze kT1 hg3 (fun j e=>by cases e; have:=HTB.out; omega);clear hm0 hmm t0 t1 t2 t3 p0 p1 p2 p3 kT1 kT0 hg3 hsp;have b03:=zc b01 (zc b1A (zc bAT b3));refine (zgy N _ (h.below b03) (by omega)).mono ?_;rintro e w4 ⟨ha,hc,H,rfl,hH,oH,b34⟩;rw [← hH] at HHA0 HHL0;have HHA:Hid (zc9 N.brs N.ls H):=HHA0;have HHL:Hid (H.length≤18):=HHL0;have HHH:Hid (∀h∈H,h.f < 6∧1≤h.c∧h.c≤1000):=hide (fun y hy=>by
  obtain ⟨q,he⟩:=HHA.out.down y hy;have h1:=(HG.out.lt _ _ _ _ he).2;have h2:=HG.out.cost _ _ _ _ he;have h3:=HG.out.six;omega)
 generalize hw5:w4.alloc (Obj.cells #[.pointer (some ⟨wA.heap.size,0,none⟩)] 123)=w5;have b45:=zb hw5;have k5:=zk hw5;have b35:=zc b34 b45;have hM5:LMem wT w5 wT.heap.size 1 (.slice (some ⟨w4.heap.size,0,none⟩) 1 1) [[⟨wA.heap.size,b,OB,0⟩]] (upd (fun _=>none) (b,OB) (some 0)) ha hc H :=
  ⟨QG.made (f:=ptrT) (z:=[⟨wA.heap.size,b,OB,0⟩]) k5 (Nat.le_trans b3.size b34.size),hM3.kept b35,(fun t ht=>by rw [List.mem_singleton] at ht; subst ht; exact ⟨za kT3 b35,trivial⟩),zB (zi oH b45) b3.size,zc b3 b35,Nat.le_refl _⟩
 have HM5:=hide hM5;have HS5:Hid (Srch N.brs.length (EdgeB N.brs N.ls) b [[⟨wA.heap.size,b,OB,0⟩]] (upd (fun _=>none) (b,OB) (some 0))):=hide (by rw [HOB.out]; exact zgN (by rw [HNL.out]; exact hb) _);clear x0 x1 x2 hM3 kT3 kN oH b34 k5 b45 b35 hM5 hH HHA0 HHL0 b3 b03;go_upto_region 4 with fail
 go_wp2_with fail
 try rw [hw5]
 clear hw5;have b1T:=zc b1A bAT;clear bAT;generalize hbm:wT.heap.size=bm at HM5;generalize htB:wA.heap.size=tB at *;generalize hv5:Value.slice (some ⟨w4.heap.size,0,none⟩) 1 1=v5 at *;clear hv5
 go_loopg [10] (wgts [[(⟨tB,b,OB,0⟩:TN)]]) (fun gk v wr=>∃(work:List (List TN)) (g:Nat × Nat→Option Int) (cnt:Nat),wgts work≤gk∧cnt+9*wgts work≤28800001∧Srch N.brs.length (EdgeB N.brs N.ls) b work g∧LMem wT wr bm cnt v work g ha hc H)
 case atStart=>exact ⟨_,_,1,Nat.le_refl _,by simp [wgts,wgt],HS5.out,HM5.out⟩
 case round =>
  clear HS5 HM5;obtain ⟨work,g,cnt,hgk,hbig,hS,hM⟩:=hrel;cases work with
  | nil =>
   have hM:=hM;obtain ⟨gq,off,cap,cur,hve,-⟩:=hM.q
   replace hve:u10=Value.slice (some ⟨gq,off,none⟩) 0 cap:=hve
   subst hve;have hL1:=zgM HG.out hS HLS.out;have HLE:=hide hL1.1;have HGE:=hide hL1.2;have HMX:Hid (c≤9223372036854775807):=hide (by
    obtain ⟨⟨o,u,h1,-⟩,h2⟩:=hL1;have h3:=h2 o u h1;obtain ⟨t,h4,-,h5⟩:=hS.true' _ _ h1;cases t with
    | nil=>exact h4.elim
    | cons n r =>
     have h6:=zc7 HG.out h4;have h7:=zgj HG.out h4;have h5:n.s=u:=h5;simp only [List.length_cons] at h7;omega)
   have HPL:Hid (∀(a:Nat × Nat) u,g a=some u→a.1 < N.brs.length):=hide (fun a u h1=>by
    obtain ⟨t,h4,h5,-⟩:=hS.true' _ _ h1;cases t with
    | nil=>exact h4.elim
    | cons n r=>rw [← h5]; exact (zfO h4).2 n.p (List.mem_cons_self ..))
   have hmp:=hM.map;have HB2:Hid (Below w1.heap.size w1 wr):=hide (zc b1T hM.bel);clear hL1 hS hM;go_wp2_with (first | (at_range; refine zdK _ rfl _ rfl bm cnt g rfl hmp ?_; intro w7 cn7 hrg7 hb7) | go_in)
   go_frame
   have HB7:Hid (Below w1.heap.size w1 w7):=hide (zc HB2.out hb7);have HSZ:Hid (w1.heap.size≤wr.heap.size):=hide HB2.out.size;clear hb7 hmp;generalize hrr:wr.heap.size=rr at *
   go_loopw [15] (fun s wr=>∃(left:Nat × Nat→Bool) (cn:Nat) (sv:Int),s=.int .i64 sv∧Ranging mS wr bm rr cnt g left cn∧c≤sv∧sv≤9223372036854775807∧(∀a u,g a=some u→a.1=x→left a=false→sv≤u)∧Below w1.heap.size w1 wr) (fun _ wr=>wr.rangeLeft bm rr)
   case atStart=>exact ⟨_,_,9223372036854775807,rfl,hrg7,HMX.out,Int.le_refl _,(fun a u h1 _ h3=>by rw [h1] at h3; cases h3),HB7.out⟩
   case round =>
    clear hrg7;obtain ⟨left,cn,sv,rfl,hrg,hc1,hc2,hsv,hb⟩:=hrel;have HSV:Hid (∀a u,g a=some u→a.1=x→left a=false→sv≤u):=hide hsv;have HBW:=hide hb;have HLEQ:=hide hrg.left_eq;clear hsv;go_wp2_with (first | (at_next; refine zdR _ rfl _ rfl bm rr cnt g left cn rfl hrg ?_ ?_) | go_in)
    ·intro hl0;have he:sv=c:=by
      obtain ⟨o,u,h1,h2⟩:=HLE.out;have h3:=HSV.out _ _ h1 rfl (hl0 _);omega
     subst he;have HBE:=hide (zc b01 HBW.out);clear hrg hb;go_wp2;go_ret;exact ⟨rfl,HBE.out⟩
    ·intro s hs;rcases s with ⟨y,u,w3,cn3⟩
     obtain ⟨hly,hgy,hrg3,hlt3,hg3,hen⟩:=hs;dsimp only at hly hgy hrg3 hlt3 hg3 hen ⊢;obtain ⟨yp,yo⟩:=y;dsimp only at hen ⊢;have HGY:=hide hgy;have HLY:=hide hly;have HRG:=hide hrg3;have HLT3:=hide hlt3;have b3:Below w1.heap.size w1 w3:=HBW.out.grown hg3 HBW.out.size (fun k e=>by cases e; exact HSZ.out);have hyp:yp < N.bn:=by have:=HPL.out _ _ hgy; rw [HNL.out] at this; exact this
     generalize hwS:w3.alloc (Obj.cells #[.int .i64 (yp:Int),.int .i64 (yo:Int)] 125)=wS;have b3S:=zb hwS;have kS:=zk hwS;obtain ⟨q0,q1⟩:=zl kS;have b1S:=zc b3 b3S;have kN:=za k1 b1S;obtain ⟨x0,x1,x2⟩:=zd kN;obtain ⟨y',bb',off',hy',hba',d0,-⟩:=br_at (h.below (zc b01 b1S)).b yp hyp;rw [hba'] at x0;clear hba';have hyB:=zb8 hy';have HRS:=hide (hrg3.below b3S);have HBS:=hide b1S;have j0:(0:Int)≤(yp:Int):=by omega
     have j1:(yp:Int) < (N.bn:Int):=by omega
     clear hgy hly hrg3 hlt3 hg3 hrg hb b3 kN hy';by_cases hyx:yp=x
     ·have hid:y'.B.id=X.id:=by
       subst hyx;rw [hX] at hyB;cases hyB
       rfl
      have hcu:c≤u:=by have:=HGY.out; rw [hyx] at this; exact HGE.out _ _ this
      have HNX:Hid (c≤min sv u∧min sv u≤9223372036854775807∧∀a u2,g a=some u2→a.1=x→upd left (yp,yo) false a=false→min sv u≤u2):=hide ⟨by omega,by omega,fun a u2 h1 h2 h3=>by
       by_cases e:a=(yp,yo)
       ·subst e;rw [HGY.out] at h1;cases h1;omega
       ·rw [zY left _ e] at h3
        have:=HSV.out a u2 h1 h2 h3
        omega⟩
      rw [hid] at d0;clear hyx hcu hid hyB;go_wp2
      go_roundw
      case rel=>exact ⟨_,_,_,rfl,HRS.out,HNX.out.1,HNX.out.2.1,HNX.out.2.2,HBS.out⟩
      case measure=>rw [HRS.out.left_eq,HLEQ.out]; exact HLT3.out
     ·have hid:¬y'.B.id=X.id:=fun e=>by
       have h1:=HG.out.apart yp x (List.getElem?_eq_some_iff.1 hyB).1 (List.getElem?_eq_some_iff.1 hX).1 (by unfold idAt; rw [hyB,hX]; exact e);exact hyx h1
      have HNX:Hid (∀a u2,g a=some u2→a.1=x→upd left (yp,yo) false a=false→sv≤u2):=hide (fun a u2 h1 h2 h3=>by
       by_cases e:a=(yp,yo)
       ·subst e;exact absurd h2 hyx
       ·rw [zY left _ e] at h3;exact HSV.out a u2 h1 h2 h3)
      clear hyx hyB;go_wp2
      go_roundw
      case rel=>exact ⟨_,_,_,rfl,HRS.out,hc1,hc2,HNX.out,HBS.out⟩
      case measure=>rw [HRS.out.left_eq,HLEQ.out]; exact HLT3.out
  | cons t rest =>
   cases t with
   | nil=>exact (hS.ok [] (List.mem_cons_self ..)).elim
   | cons n r =>
    obtain ⟨gq,off,cap,hve,hcl,hcm,hcc⟩:=hM.q.head;subst hve
    replace hcc:wr.cell? ⟨gq,off,none⟩=some (.pointer (some ⟨n.b,0,none⟩)):=hcc
    have trok:=hS.ok _ (List.mem_cons_self ..);obtain ⟨s1,s2,s3,s4⟩:=zc7 HG.out trok;have s5:=zgj HG.out trok;simp only [List.length_cons] at s5;obtain ⟨v0,hg0,hv0⟩:=hS.at' _ (List.mem_cons_self ..);have HG0:=hide hg0;have HSM:Hid (n.o < 64∧(0≤n.s∧n.s≤100000)):=hide (by omega);have HGK:=hide hgk;have HBIG:=hide hbig;have HCB:Hid (cnt≤28800001):=hide (by omega);have hLT:=hM.laid _ (List.mem_cons_self ..);have kT:wr.heap[n.b]? = some (.cells #[.int .i64 (n.p:Int),.int .i64 (n.o:Int),.int .i64 n.s,ptrT r] 127):=hLT.1;have vv:Below wr.heap.size wr wr.drew:=zG (Below.refl _ _);have HB1:Hid (Below w1.heap.size w1 wr):=hide (zc b1T hM.bel);have hlk:(Instr.lookup 128 (.map (some bm)) (.agg #[.int .i64 (n.p:Int),.int .i64 (n.o:Int)]) false).run Tryz.prog wr.drew=.ok (.int .i64 v0) wr.drew:=by
     have h1:=(hM.map.kept vv).look false (a:=(n.p,n.o)) ⟨by show n.p≤1000; omega,by show n.o≤1000; omega⟩;refine h1.trans ?_;have h2:g (n.p,n.o)=some v0:=hg0
     show Result.ok (Value.int .i64 ((g (n.p,n.o)).getD 0)) _=_
     rw [h2]
     rfl
    have i0:(0:Int) < ((rest.length+1:Nat):Int):=by omega
    have i1:(0:Int) < ((rest.length:Nat):Int)+1:=by omega
    clear hg0 hgk hbig trok s1 s2 s3 s4 s5;(go_upto_region 7 with fail);by_cases hst:v0 < n.s
    ·have HLT:Hid (v0 < zao (n::r)):=hide hst;refine wp_region_held_drew (S:=(fun W=>zcc W gq off (.pointer (some ⟨n.b,0,none⟩))∧(zcc W n.b 0 (.int .i64 (n.p:Int))∧zcc W n.b 1 (.int .i64 (n.o:Int))∧zcc W n.b 2 (.int .i64 n.s)∧zcc W n.b 3 (ptrT r))∧(Instr.lookup 128 (.map (some bm)) (.agg #[.int .i64 (n.p:Int),.int .i64 (n.o:Int)]) false).run Tryz.prog W=.ok (.int .i64 v0) W)) (by kernel_rfl) (⟨(vv.cell (zp hcc)).trans hcc,zr (za kT vv),hlk⟩) (fun hHeld => ?_);refine kK 0 q273 ?_;refine kK 1 q274 ?_;refine kK 2 q275 ?_;refine kK 3 q276 ?_;refine kK 4 q277 ?_;refine kK 5 q278 ?_;refine kK 6 q279 ?_;refine kK 7 q280 ?_;refine kK 8 q281 ?_;refine kK 9 q282 ?_;refine kK 10 q283 ?_;refine kK 11 q284 ?_;refine kK 12 q285 ?_;refine kK 13 q286 ?_;refine kV 14 q287 (.bool true) ?_;refine wpAnyH_done (by kernel_rfl) ?_ _;clear hHeld hlk hcc kT;have hM:=hM.below vv;generalize wr.drew=wd at *;clear vv;obtain ⟨hC1,hC2⟩:=(show wgts rest < wgts ((n::r)::rest)∧cnt+9*wgts rest≤cnt+9*wgts ((n::r)::rest) by rw [zb2]; have:=zeF (n::r); omega);have hq2:=hM.q;have hq3:=hq2.rest;have HS2:=hide (hS.skip HG0.out HLT.out);have HM2:=hide hM;have HC1:=hide (Nat.lt_of_lt_of_le hC1 HGK.out);have HC2:=hide (Nat.le_trans hC2 HBIG.out);generalize hn0:(rest).length=n0 at hq3 hcl hq2;have i1:(1:Int)≤((n0+1:Nat):Int):=by omega
     have i2:((n0+1:Nat):Int)≤(cap:Int):=by omega
     clear hC1 hC2  hq2;clear hS hM;by_cases hc1:cap=1
     ·subst hc1;rw [if_pos rfl] at hq3;obtain rfl:n0=0:=by omega
      have HQ3:=hide hq3;clear hq3;go_wp2
      go_roundg (wgts (rest))
      case measure=>exact HC1.out
      case rel=>exact ⟨rest,g,cnt,Nat.le_refl _,HC2.out,HS2.out,HM2.out.rest HQ3.out⟩
     ·rw [if_neg hc1] at hq3;have HQ3:=hide hq3;clear hq3;go_wp2
      go_roundg (wgts (rest))
      case measure=>exact HC1.out
      case rel=>exact ⟨rest,g,cnt,Nat.le_refl _,HC2.out,HS2.out,HM2.out.rest HQ3.out⟩
    ·refine wp_region_held_drew (S:=(fun W=>zcc W gq off (.pointer (some ⟨n.b,0,none⟩))∧(zcc W n.b 0 (.int .i64 (n.p:Int))∧zcc W n.b 1 (.int .i64 (n.o:Int))∧zcc W n.b 2 (.int .i64 n.s)∧zcc W n.b 3 (ptrT r))∧(Instr.lookup 128 (.map (some bm)) (.agg #[.int .i64 (n.p:Int),.int .i64 (n.o:Int)]) false).run Tryz.prog W=.ok (.int .i64 v0) W)) (by kernel_rfl) (⟨(vv.cell (zp hcc)).trans hcc,zr (za kT vv),hlk⟩) (fun hHeld => ?_);refine kK 0 q273 ?_;refine kK 1 q274 ?_;refine kK 2 q275 ?_;refine kK 3 q276 ?_;refine kK 4 q277 ?_;refine kK 5 q278 ?_;refine kK 6 q279 ?_;refine kK 7 q280 ?_;refine kK 8 q281 ?_;refine kK 9 q282 ?_;refine kK 10 q283 ?_;refine kK 11 q284 ?_;refine kK 12 q285 ?_;refine kK 13 q286 ?_;refine kV 14 q287 (.bool false) ?_;refine wpAnyH_done (by kernel_rfl) ?_ _;clear hHeld;have hM:=hM.below vv;have hcc:=(vv.cell (zp hcc)).trans hcc;have hLT:=hLT.below vv;have hlk0:=hlk;have kN:=za (za k1 HB1.out) vv;generalize wr.drew=wd at *;clear vv hlk kT;have vv:Below wd.heap.size wd wd.drew:=zG (Below.refl _ _);(go_upto_region 8 with fail);refine wp_region_held_drew (S:=(fun W=>zcc W gq off (.pointer (some ⟨n.b,0,none⟩))∧(zcc W w.heap.size 0 (.slice N.ba N.bn N.bc)∧zcc W w.heap.size 1 (.slice N.la N.ln N.lc)∧zcc W w.heap.size 2 (.slice N.sa N.sn N.sc)))) (by kernel_rfl) (⟨(vv.cell (zp hcc)).trans hcc,zd (za kN vv)⟩) (fun hHeld => ?_);refine kK 0 ⟨some 55,.move (.tmp 10),131,"l16_true.go:95",#[],none⟩ ?_;refine kK 1 ⟨some 56,.indexAddr 131 (.tmp 55) (.const (.int .i64 0)),0,"l16_true.go:95",#[⟨0,.data⟩],none⟩ ?_;refine kK 2 ⟨some 57,.load 123 (.tmp 56),123,"l16_true.go:95",#[⟨1,.data⟩],none⟩ ?_;refine kK 3 ⟨some 58,.load 28 (.tmp 3),28,"l16_true.go:95",#[],none⟩ ?_;refine kK 4 ⟨some 59,.move (.tmp 9),129,"l16_true.go:95",#[],none⟩ ?_;refine kK 7 ⟨some 62,.move (.const (.int .i64 0)),3,"l16_true.go:95",#[],none⟩ ?_;refine kR 5 ⟨some 60,.call ⟨.value (.func 68),#[.tmp 57,.tmp 58,.tmp 59],#[123,28,129]⟩,131,"l16_true.go:95",#[⟨2,.data⟩,⟨3,.data⟩,⟨4,.data⟩],none⟩ (fun K hK => ?_);go_simp;clear hHeld;refine (zgD N n r ha H.length hc H _ (hLT.below vv) ((zA (F:=hopF) hM.hops).below vv) HN6.out HSM.out.1 HSM.out.2 HHH.out (by have:=HHL.out; omega)).mono ?_;rintro e wL ⟨aL,cL,L,rfl,hLO,oL,hLL,hbL⟩;have HQO:Hid (∀k i,(Value.slice (some ⟨gq,off,none⟩) (rest.length+1) cap).ownBlock=some k→(Value.slice aL L.length cL).ownBlock=some i→i≠k):=hide (fun k i hk hi e=>by
      have h1:=(hM.q.lt k hk).2;have h2:=(oL.lt i hi).1;have h3:=vv.size;omega)
     have oL:=zB oL (base':=wT.heap.size) (Nat.le_trans hM.bel.size vv.size);have vv:=zc vv hbL;clear hbL;(go_wp2_with fail);refine kO hK (⟨(vv.cell (zp hcc)).trans hcc,zd (za kN vv)⟩) fun hHeld => ?_
     clear hK K;refine kK 6 ⟨some 61,.call ⟨.builtin .len,#[.tmp 60],#[131]⟩,3,"l16_true.go:95",#[⟨5,.data⟩],none⟩ ?_;refine wpAnyH_done (by kernel_rfl) ?_ _;clear hHeld kN hcc hlk0;have hM:=hM.below vv;have hIn:LIn N.brs.length (EdgeB N.brs N.ls) b wT wL bm (.slice (some ⟨gq,off,none⟩) (rest.length+1) cap) ha hc H (n::r) (wgts ((n::r)::rest)) cnt aL cL L 0 rest g cnt:=⟨hS,hM,(by intro i t' hi; omega),by omega,by omega,oL,hLL,HQO.out⟩;have HLO:=hide hLO;have HTR:=hide (ziS HG.out hLO HHA.out (hS.ok _ (List.mem_cons_self ..)));have HON:=hide (ziR hLO HHA.out);have HL18:Hid (L.length≤18):=hide (Nat.le_trans hLO.len HHL.out);have HW20:Hid (∀t'∈L,20*wgt t'=wgt (n::r)):=hide (fun t' ht'=>by
      obtain ⟨n',rfl,hk⟩:=HTR.out t' ht';exact ziv rfl (zgj HG.out hk))
     clear hS hM oL hLL HQO hLO vv hLT;generalize hvq:Value.slice (some ⟨gq,off,none⟩) (rest.length+1) cap=vq at *;clear hvq;(go_wp2_with fail)
     go_loopw [10,62] (fun v i wr=>∃(j:Nat) (rest':List (List TN)) (g':Nat × Nat→Option Int) (cnt':Nat),j≤L.length∧i=.int .i64 j∧LIn N.brs.length (EdgeB N.brs N.ls) b wT wr bm v ha hc H (n::r) (wgts ((n::r)::rest)) cnt aL cL L j rest' g' cnt') (fun _ i _=>L.length - (intOf i).toNat)
     case atStart=>exact ⟨0,rest,g,cnt,Nat.zero_le _,rfl,hIn⟩
     case round =>
      clear hIn;obtain ⟨j,rest',g',cnt',hj,rfl,hI⟩:=hrel;have hl18:=HL18.out;by_cases hlt:j < L.length
      ·have i1:(j:Int) < (L.length:Int):=by omega
       have i0:(0:Int)≤(j:Int):=by omega
       obtain ⟨t',gb,of,ht',haL,cL0⟩:=tr_at (zA (F:=trF) hI.own) j hlt;subst haL;obtain ⟨n',rfl,hk'⟩:=HTR.out t' (List.mem_of_getElem? ht')
       replace cL0:wr.cell? ⟨gb,of+j,none⟩=some (.pointer (some ⟨n'.b,0,none⟩)):=cL0
       have hlc:=(zA (F:=trF) hI.own).le;have HI:=hide hI;have HT':=hide ht';have HK':=hide hk';obtain ⟨s1,s2,s3,s4⟩:=zc7 HG.out hk';have hsp:SpOk (n'.p,n'.o):=⟨by show n'.p≤1000; omega,by show n'.o≤1000; omega⟩;have kT':wr.heap[n'.b]? = some (.cells #[.int .i64 (n'.p:Int),.int .i64 (n'.o:Int),.int .i64 n'.s,ptrT (n::r)] 127):=(hI.laid _ (List.mem_of_getElem? ht')).1;obtain ⟨y0,y1,y2,y3⟩:=zr kT';have hmp:=hI.mem.map;have HSS:Hid (-9223372036854775808≤n'.s∧n'.s≤9223372036854775807):=hide (by have h6:=zgj HG.out hk'; simp only [List.length_cons] at h6 s4; omega);clear hI ht' hk' s1 s2 s3 s4;cases hg':g' (n'.p,n'.o) with
       | none =>
        have HS':Hid (∀u,g' (zan (n'::n::r))=some u→zao (n'::n::r) < u):=hide (fun u hu=>by have hu:g' (n'.p,n'.o)=some u:=hu; rw [hg'] at hu; cases hu);go_wp2_with (first | (at_lookup; refine zbk _ rfl _ _ rfl bm cnt' g' n'.p n'.o rfl hmp rfl hsp ?_; rw [hg']; dsimp only [Option.getD,Option.isSome]) | go_in)
        clear hg' y0 y1 y2 y3;have vv:Below wr.heap.size wr wr.drew:=zG (Below.refl _ _);obtain ⟨wM,hrM,hMM,hgM,-⟩:=(MapIs.block (w':=wr.drew) hmp rfl).store (by have h1:=HI.out.cnt'; have h2:=HCB.out; unfold maxLen; omega) hsp n'.s;have hrM:(Instr.mapUpdate 128 (.map (some bm)) (.agg #[.int .i64 (n'.p:Int),.int .i64 (n'.o:Int)]) (.int .i64 n'.s)).run Tryz.prog wr.drew=.ok () wM:=hrM;have hgM2:wr.grownBy wM (some bm):=⟨hgM.os,hgM.tape,hgM.output,hgM.size,hgM.block⟩;have kM:wM.heap[n'.b]? = some (.cells #[.int .i64 (n'.p:Int),.int .i64 (n'.o:Int),.int .i64 n'.s,ptrT (n::r)] 127):=ze kT' hgM2 (fun i hi e=>by cases hi; subst e; exact za3 hmp _ _ kT');have HMM:=hide hMM;clear hgM hmp hMM;(go_upto_region 13 with fail);refine wp_region_held_drew (S:=(fun W=>(zcc W n'.b 0 (.int .i64 (n'.p:Int))∧zcc W n'.b 1 (.int .i64 (n'.o:Int))∧zcc W n'.b 2 (.int .i64 n'.s)∧zcc W n'.b 3 (ptrT (n::r))))) (by kernel_rfl) ((by first | exact zr kM | exact zr (za kT' vv))) (fun hHeld => ?_);refine kK 0 q288 ?_;refine kK 1 q289 ?_;refine kK 2 q290 ?_;refine kK 3 q291 ?_;refine kK 4 q292 ?_;refine kK 5 q293 ?_;refine kK 6 q294 ?_;refine kK 7 q295 ?_;refine kK 8 q296 ?_;refine kR 9 q297 (fun K hK => ?_);clear hHeld;go_simp;refine kO hK ((by first | exact zr kM | exact zr (za kT' vv))) fun hHeld => ?_
        clear hK K;refine wpAnyH_done (by kernel_rfl) ?_ _;clear hHeld hrM vv;generalize hwB:wM.alloc (Obj.cells #[.pointer (some ⟨n'.b,0,none⟩)] 123)=wB;have bMB:=zb hwB;have kB:=zk hwB;have qB:=((HI.out.mem.store HMM.out hgM2).below bMB).q;have cB:wB.cell? ⟨wM.heap.size,0,none⟩=some (ptrT (n'::n::r)):=by simp only [World.cell?,kB]; rfl
        have hbz:wT.heap.size≤wB.heap.size:=Nat.le_trans HI.out.mem.bel.size (Nat.le_trans hgM2.size bMB.size);have hlen:((n::r)::rest').length+1≤16777216:=by
         have h1:=HI.out.wg;have h2:=zeG ((n::r)::rest');have h3:j*wgt (n::r)≤18*wgt (n::r):=Nat.mul_le_mul_right _ (by omega);have h4:=HBIG.out;have h5:=zb2 (n::r) rest;omega
        go_wp2_with (first | (at_builtin; refine za0 (f:=ptrT) _ rfl _ _ 131 123 rfl wT.heap.size Tryz.underlying131 zgi rfl _ ((n::r)::rest') rfl qB wM.heap.size 0 1 (n'::n::r) rfl cB rfl hlen hbz ?_; intro v8 w8 hq8 hg8 hv8) | go_in)
        have HI2:=hide (HI.out.more HT'.out HK'.out (HW20.out _ (List.mem_of_getElem? HT'.out)) HS'.out HMM.out hgM2 bMB hq8 hg8 hv8);clear qB cB hlen hbz hwB bMB kB hq8 hg8 hv8 hgM2 kM kT';go_wp2
        go_roundw
        case rel=>exact ⟨j+1,rest'++[n'::n::r],_,cnt'+1,by omega,by go_num,HI2.out⟩
        case measure=>simp [intOf]; omega
       | some u =>
        have HU:Hid (g' (zan (n'::n::r))=some u):=hide hg';by_cases hlu:n'.s < u
        ·have HS':Hid (∀u,g' (zan (n'::n::r))=some u→zao (n'::n::r) < u):=hide (fun u2 hu=>by rw [HU.out] at hu; cases hu; exact hlu);go_wp2_with (first | (at_lookup; refine zbk _ rfl _ _ rfl bm cnt' g' n'.p n'.o rfl hmp rfl hsp ?_; rw [hg']; dsimp only [Option.getD,Option.isSome]) | go_in)
         clear hg' y0 y1 y2 y3;have vv:Below wr.heap.size wr wr.drew:=zG (Below.refl _ _);obtain ⟨wM,hrM,hMM,hgM,-⟩:=(MapIs.block (w':=wr.drew) hmp rfl).store (by have h1:=HI.out.cnt'; have h2:=HCB.out; unfold maxLen; omega) hsp n'.s;have hrM:(Instr.mapUpdate 128 (.map (some bm)) (.agg #[.int .i64 (n'.p:Int),.int .i64 (n'.o:Int)]) (.int .i64 n'.s)).run Tryz.prog wr.drew=.ok () wM:=hrM;have hgM2:wr.grownBy wM (some bm):=⟨hgM.os,hgM.tape,hgM.output,hgM.size,hgM.block⟩;have kM:wM.heap[n'.b]? = some (.cells #[.int .i64 (n'.p:Int),.int .i64 (n'.o:Int),.int .i64 n'.s,ptrT (n::r)] 127):=ze kT' hgM2 (fun i hi e=>by cases hi; subst e; exact za3 hmp _ _ kT');have HMM:=hide hMM;clear hgM hmp hMM;(go_upto_region 13 with fail);refine wp_region_held_drew (S:=(fun W=>(zcc W n'.b 0 (.int .i64 (n'.p:Int))∧zcc W n'.b 1 (.int .i64 (n'.o:Int))∧zcc W n'.b 2 (.int .i64 n'.s)∧zcc W n'.b 3 (ptrT (n::r))))) (by kernel_rfl) ((by first | exact zr kM | exact zr (za kT' vv))) (fun hHeld => ?_);refine kK 0 q288 ?_;refine kK 1 q289 ?_;refine kK 2 q290 ?_;refine kK 3 q291 ?_;refine kK 4 q292 ?_;refine kK 5 q293 ?_;refine kK 6 q294 ?_;refine kK 7 q295 ?_;refine kK 8 q296 ?_;refine kR 9 q297 (fun K hK => ?_);clear hHeld;go_simp;refine kO hK ((by first | exact zr kM | exact zr (za kT' vv))) fun hHeld => ?_
         clear hK K;refine wpAnyH_done (by kernel_rfl) ?_ _;clear hHeld hrM vv;generalize hwB:wM.alloc (Obj.cells #[.pointer (some ⟨n'.b,0,none⟩)] 123)=wB;have bMB:=zb hwB;have kB:=zk hwB;have qB:=((HI.out.mem.store HMM.out hgM2).below bMB).q;have cB:wB.cell? ⟨wM.heap.size,0,none⟩=some (ptrT (n'::n::r)):=by simp only [World.cell?,kB]; rfl
         have hbz:wT.heap.size≤wB.heap.size:=Nat.le_trans HI.out.mem.bel.size (Nat.le_trans hgM2.size bMB.size);have hlen:((n::r)::rest').length+1≤16777216:=by
          have h1:=HI.out.wg;have h2:=zeG ((n::r)::rest');have h3:j*wgt (n::r)≤18*wgt (n::r):=Nat.mul_le_mul_right _ (by omega);have h4:=HBIG.out;have h5:=zb2 (n::r) rest;omega
         go_wp2_with (first | (at_builtin; refine za0 (f:=ptrT) _ rfl _ _ 131 123 rfl wT.heap.size Tryz.underlying131 zgi rfl _ ((n::r)::rest') rfl qB wM.heap.size 0 1 (n'::n::r) rfl cB rfl hlen hbz ?_; intro v8 w8 hq8 hg8 hv8) | go_in)
         have HI2:=hide (HI.out.more HT'.out HK'.out (HW20.out _ (List.mem_of_getElem? HT'.out)) HS'.out HMM.out hgM2 bMB hq8 hg8 hv8);clear qB cB hlen hbz hwB bMB kB hq8 hg8 hv8 hgM2 kM kT';go_wp2
         go_roundw
         case rel=>exact ⟨j+1,rest'++[n'::n::r],_,cnt'+1,by omega,by go_num,HI2.out⟩
         case measure=>simp [intOf]; omega
        ·have HLE:Hid (u≤zao (n'::n::r)):=hide (by show u≤n'.s; omega);go_wp2_with (first | (at_lookup; refine zbk _ rfl _ _ rfl bm cnt' g' n'.p n'.o rfl hmp rfl hsp ?_; rw [hg']; dsimp only [Option.getD,Option.isSome]) | go_in)
         go_roundw
         case rel=>exact ⟨j+1,rest',g',cnt',by omega,by go_num,HI.out.stay (Below.refl _ _) HT'.out HU.out HLE.out⟩
         case measure=>simp [intOf]; omega
      ·have hjn:j=L.length:=by omega
       subst hjn;obtain ⟨hC1,hC2⟩:=(zg1 hI.cnt' hI.wg (zb2 _ _) hl18 (zeF _) (fun h0=>by have h1:=HW20.out _ (List.getElem_mem h0); have h2:=zeF (L[0]); omega));have hq2:=hI.mem.q;obtain ⟨gq,off,cap,hve,hcl,hcm,hcc⟩:=hq2.head;subst hve;have hq3:=hq2.rest;have HS2:=hide (hI.srch.off HON.out (fun t' ht'=>by obtain ⟨i,hi⟩:=List.getElem?_of_mem ht'; exact hI.told i t' (List.getElem?_eq_some_iff.1 hi).1 hi));have HM2:=hide hI.mem;have HC1:=hide (Nat.lt_of_lt_of_le hC1 HGK.out);have HC2:=hide (Nat.le_trans hC2 HBIG.out);generalize hn0:(rest').length=n0 at hq3 hcl hq2;have i1:(1:Int)≤((n0+1:Nat):Int):=by omega
       have i2:((n0+1:Nat):Int)≤(cap:Int):=by omega
       clear hC1 hC2 hcc hq2;clear hI;by_cases hc1:cap=1
       ·subst hc1;rw [if_pos rfl] at hq3;obtain rfl:n0=0:=by omega
        have HQ3:=hide hq3;clear hq3;go_wp2
        go_roundg (wgts (rest'))
        case measure=>exact HC1.out
        case rel=>exact ⟨rest',g',cnt',Nat.le_refl _,HC2.out,HS2.out,HM2.out.rest HQ3.out⟩
       ·rw [if_neg hc1] at hq3;have HQ3:=hide hq3;clear hq3;go_wp2
        go_roundg (wgts (rest'))
        case measure=>exact HC1.out
        case rel=>exact ⟨rest',g',cnt',Nat.le_refl _,HC2.out,HS2.out,HM2.out.rest HQ3.out⟩

def NV.t (N:NV):List BR × List LK × List SY:=(N.brs,N.ls,N.ss)

theorem zgx {bs:List BR} {ls:List LK} {K u p v q:Nat} (h:Hears bs ls K u p v q):Hears bs ls K v q u p:=by
 obtain ⟨κ,x,h1,h2,h3,h4⟩:=h;exact ⟨κ,x,h1,h2,h3,h4.symm⟩

theorem zcr {bs:List BR} {ls:List LK} {ss:List SY} (h:NetOk bs ls ss) {u p v q v' q':Nat} (h1:Hears bs ls ls.length u p v q) (h2:Hears bs ls ls.length u p v' q'):v=v'∧q=q':=by
 obtain ⟨κ,x,-,hx,-,hc⟩:=h1;obtain ⟨κ',x',-,hx',-,hc'⟩:=h2;have hnd:=((zdt bs ls).1 h.2.1).2.2;have e:=zbl hnd (List.mem_of_getElem? hx) (List.mem_of_getElem? hx') (by rcases hc with rfl | rfl <;> rcases hc' with rfl | rfl <;> simp);subst e;obtain ⟨⟨n,-⟩,-⟩:=h.2.1.2 x' (List.mem_of_getElem? hx);rcases hc with rfl | rfl <;> rcases hc' with e | e <;> simp only [LK.mk.injEq] at e <;> first | omega | (exact absurd (by omega) n)

section
open Go.RowKit Go.Maps

theorem ziJ (l:List Int):intF.all l=l.map encZ:=by
 induction l with
 | nil=>rfl
 | cons a l ih=>rw [intF.all_cons,ih]; rfl

theorem zh3 (m:Option Nat) (w:World) :
  Calls Tryz.prog 33 #[.map m] w fun e w'=>e=.returned (.func (.func 61) #[] #[.pointer (some ⟨w.heap.size,0,none⟩)])∧w'=w.alloc (.cells #[.map m] 78):=by
 have h:=AnyZI.keys_in Tryz.keysI Fence.wide 5 trivial rfl m w
 change CallsIn _ _ Tryz.prog 33 _ _ _ at h
 exact callsIn_wide.1 h

theorem zie {w:World} {b n:Nat} {S:List Int} (h:w.ownsMap Tryz.prog 3 (unitElem (H:=Unit)) b n (setI S)) (hn:S.Nodup):S.Perm (intKeys (setI S)):=by
 obtain ⟨es,hD,hpw,-⟩:=h.entries keyI;obtain ⟨es',hD',hko⟩:=h.keysOf;obtain rfl:es=es':=by rw [hD] at hD'; simpa using hD'
 have hh:∀x,x∈S↔has (.map es) (.int .i64 x)=true:=fun x=>by rw [← hD,zel,List.contains_iff_mem]
 rw [hD];exact perm_intKeys hpw (fun p hp=>by obtain ⟨v,hv⟩:=hko p hp; obtain ⟨x,_,hx,_⟩:=Maps.keyOf_i64 Tryz.underlying3 hv; exact ⟨x,hx⟩) hn hh

theorem zdn (N:NV) (b:Int) (la:Option Addr) (n c:Nat) (l:List Int) (w:World) (h:zac w N) (hl:GRow intF w la n c l) (hn:n≤1048576) (hbn:N.bn≤1048576) :
  Calls Tryz.prog 15 #[.agg #[.slice N.ba N.bn N.bc,.slice N.la N.ln N.lc,.slice N.sa N.sn N.sc],.int .i64 b,.slice la n c] w fun e w'=>∃ao cap,e=.returned (.slice ao (joined N.bn N.ls b l).length cap)∧w'.ownsRow w.heap.size 3 1 (.slice ao (joined N.bn N.ls b l).length cap) (joined N.bn N.ls b l).length (intF.all (joined N.bn N.ls b l))∧Below w.heap.size w w':=by
 generalize hw1:w.alloc (Obj.cells #[.slice N.ba N.bn N.bc,.slice N.la N.ln N.lc,.slice N.sa N.sn N.sc] 28)=w1;have b01:=zb hw1;have k1:=zk hw1;obtain ⟨x0,x1,x2⟩:=zd k1;go_enter Tryz.func15,Tryz.ntmps15;go_wp2_with fail
 refine (zbN N b _ (h.below b01)).mono ?_;rintro e w2 ⟨v,rfl,hv,hb2⟩;have b02:=zc b01 hb2;have k2:=za k1 hb2;clear x0 x1 x2 hw1 k1 b01 hb2;obtain ⟨x0,x1,x2⟩:=zd k2;cases v with
 | none =>
  have HJ:Hid (joined N.bn N.ls b l=[]):=hide (by unfold joined; rw [hv.1 rfl]; rfl);have HB:=hide b02;clear hv b02;go_wp2;go_ret;exact ⟨none,0,by rw [HJ.out]; rfl,by rw [HJ.out]; exact World.ownsRow_nil _ _ _ _,HB.out⟩
 | some p =>
  have hB:inB N.bn b=true:=by
   cases hc:inB N.bn b
   ·have:=hv.2 hc
    cases this
   ·rfl
  have HIN:=hide hB;clear hv hB;(go_wp2_with fail);refine (zeo N la n c l _ (h.below b02) (hl.below b02) hn).mono ?_;rintro e w3 ⟨cs,ta,tc,hcs,-,-,rfl,hT,hb3⟩;have b03:=zc b02 hb3;have HCS:=hide hcs;have hT2:∀x∈told N.bn N.ls cs,inB N.bn x.a=true∧inB N.bn x.b=true:=fun x hx=>by
   obtain ⟨k,-,-,h1,h2⟩:=zc6.1 hx;exact ⟨h1,h2⟩
  have hGT:=zA (F:=linkF) hT;clear hcs hT x0 x1 x2 k2 hb3 b02;generalize hTT:told N.bn N.ls cs=T at *;have HTT:=hide hTT;clear hTT;generalize T.length=tn at *;(go_wp2_with fail);refine (zfH T N.bn b ta tn tc _ hGT hT2 HIN.out hbn).mono ?_;rintro e w4 ⟨S,rfl,hR,hM,hb4⟩;have b04:=zc b03 hb4;have HR:=hide hR;have HP:=hide (zie hM hR.good.1);have hlS:=hR.good.len;clear hGT hT2 hb4 b03 hR;(go_wp2_with fail);refine (zh3 _ _).mono ?_;rintro e w5 ⟨rfl,e5⟩;have b45:Below w4.heap.size w4 w5:=by rw [e5]; exact zn _ _
  have k5:w5.heap[w4.heap.size]? = some (.cells #[.map (some w3.heap.size)] 78):=by rw [e5]; exact zT _ _
  have hM5:=zbr hM b45;have b05:=zc b04 b45;have hc5:w5.cell? ⟨w4.heap.size,0,none⟩=some (.map (some w3.heap.size)):=by unfold World.cell?; rw [k5]; rfl
  have hlt5:w4.heap.size < w5.heap.size:=(Array.getElem?_eq_some_iff.1 k5).1;have hgv:=ziL (AnyZI.keys_gives (ρ:=Tryz.keysI_ren) { Tryz.keysI with } Fence.wide 2 trivial rfl (by omega) w4.heap.size w3.heap.size S.length (setI S) w5 hlt5 hc5 hM5);have hsz:∀ss:List Int,ss.Perm (intKeys (setI S))→ss.length≤S.length:=fun ss hss=>by rw [hss.length_eq,HP.out.length_eq]; exact Nat.le_refl _
  have hms:=hM5.size_le;have hgv2:zc8 Fence.wide 2 Tryz.prog 61 #[.pointer (some ⟨w4.heap.size,0,none⟩)] (fun ss=>ss.Perm (intKeys (setI S))) S.length w5:=fun l J W h1 h2 h3 hY h0=>hgv l J W h1 h2 h3 (fun pre x W1 hj hl=>hY pre x W1 hj (Nat.lt_of_lt_of_le hl hms)) h0
  have hS16:S.length≤16777216:=by omega
  have HB5:=hide b05;clear e5 hM k5 b45 b04 hgv hms b05 hc5 hlt5 hM5 hlS;(go_wp2_with fail);refine (zd9 61 _ (enters_of Tryz.func61 (by kernel_rfl) rfl) (fun ss=>ss.Perm (intKeys (setI S))) S.length hsz hS16 w5 hgv2).mono ?_;rintro e w6 ⟨v,ss,rfl,hss,how,-,hb6⟩;have hJ:ss.mergeSort leI=joined N.bn N.ls b l:=by
   rw [mergeSort_of_perm_i (hss.trans HP.out.symm)];exact zem HCS.out HIN.out (by rw [HTT.out]; exact HR.out)
  have how:w6.ownsRow w5.heap.size 3 1 v ss.length ((ss.mergeSort leI).map encZ):=how;have hL:ss.length=(joined N.bn N.ls b l).length:=by rw [← hJ,List.length_mergeSort]
  rw [hJ,hL,← ziJ] at how;obtain ⟨ao,cap,rfl⟩:=zbn how;have HO:=hide (zB how HB5.out.size);have HB:=hide (zc HB5.out hb6);clear how hb6 hJ hL hss hgv2 hsz;go_wp2;go_ret;exact ⟨ao,cap,rfl,HO.out,HB.out⟩

end

def idOf (bs:List BR) (z:Int):Int:=match bs[z.toNat]? with
 | some B=>B.id
 | none=>0
def zaZ (bs:List BR) (r:Int) (J:List Int):Nat→Int
 | 0=>r
 | k+1=>match J[k]? with
  | some z=>min (zaZ bs r J k) (idOf bs z)
  | none=>zaZ bs r J k
def zcy (bs:List BR) (ls:List LK) (nb:Nat) (b:Int):Int:=zaZ bs (idOf bs b) (joined nb ls b (upTo bs ls ls.length)) (joined nb ls b (upTo bs ls ls.length)).length

theorem zfI {bs:List BR} {r z:Int} {J:List Int} {k:Nat} (h:J[k]? = some z):zaZ bs r J (k+1)=min (zaZ bs r J k) (idOf bs z):=by
 rw [zaZ,h]

theorem ze1 (bs:List BR) (r:Int) (J:List Int):∀k,zaZ bs r J k≤r∧∀j z,j < k→J[j]? = some z→zaZ bs r J k≤idOf bs z
 | 0=>⟨Int.le_refl _,fun j z hj=>absurd hj (Nat.not_lt_zero _)⟩
 | k+1=>by
  obtain ⟨h1,h2⟩:=ze1 bs r J k;rw [zaZ]
  split
  ·next y hy =>
   refine ⟨by omega,fun j z hj hz => ?_⟩;by_cases e:j=k
   ·subst e;rw [hy] at hz;cases hz;omega
   ·have:=h2 j z (by omega) hz
    omega
  ·next hy =>
   refine ⟨h1,fun j z hj hz => ?_⟩;by_cases e:j=k
   ·subst e;rw [hy] at hz;cases hz
   ·exact h2 j z (by omega) hz

theorem ze0 (bs:List BR) (r:Int) (J:List Int):∀k,zaZ bs r J k=r∨∃z∈J,zaZ bs r J k=idOf bs z
 | 0=>.inl rfl
 | k+1=>by
  have ih:=ze0 bs r J k;rw [zaZ]
  split
  ·next y hy =>
   by_cases hl:zaZ bs r J k≤idOf bs y
   ·rw [Int.min_eq_left hl];exact ih
   ·rw [Int.min_eq_right (by omega)];exact .inr ⟨y,List.mem_of_getElem? hy,rfl⟩
  ·exact ih

theorem zhd {nb:Nat} {ls:List LK} {b:Int} {l:List Int} {z:Int} (h:z∈joined nb ls b l):0≤z∧z < (nb:Int):=by
 unfold joined at h
 split at h
 ·exact (zcs.1 h).2
 ·simp at h

theorem zgz (nb:Nat) (ls:List LK) (b:Int) (l:List Int):(joined nb ls b l).length≤nb:=by
 unfold joined
 split
 ·exact zf5 _ _
 ·simp

theorem ziw {N:NV} {k:Nat} {y:BV} (h:N.bs[k]? = some y):idOf N.brs (k:Int)=y.B.id:=by
 have h2:N.brs[k]? = some y.B:=by
  unfold NV.brs;rw [List.getElem?_map,h]
  rfl
 unfold idOf;rw [Int.toNat_natCast,h2]

theorem za8 (N:NV) (u:Nat) (w:World) (h:zac w N) (hu:u < N.bn) (hbn:N.bn≤1048576) (h20:N.ln≤1048576) :
  Calls Tryz.prog 13 #[.agg #[.slice N.ba N.bn N.bc,.slice N.la N.ln N.lc,.slice N.sa N.sn N.sc],.int .i64 (u:Int)] w fun e w'=>e=.returned (.int .i64 (zcy N.brs N.ls N.bn (u:Int)))∧Below w.heap.size w w':=by
 have hle:=Nat.le_trans h.b.le h.b.top;unfold maxLen at hle;have HLN:=hide h.l.size;generalize hw1:w.alloc (Obj.cells #[.slice N.ba N.bn N.bc,.slice N.la N.ln N.lc,.slice N.sa N.sn N.sc] 28)=w1;have b01:=zb hw1;have k1:=zk hw1;obtain ⟨x0,x1,x2⟩:=zd k1;obtain ⟨y,bb,off,hy,hba,-⟩:=br_at h.b u hu;have HID:=hide (ziw hy);have HBA:=hide hba;clear hba;go_enter Tryz.func13,Tryz.ntmps13;go_wp2_with fail
 refine (zbf N u bb off _ hle hu HBA.out).mono ?_;rintro e w2 ⟨rfl,hb2⟩;have b02:=zc b01 hb2;have k2:=za k1 hb2;clear x0 x1 x2 hw1 k1 b01 hb2;obtain ⟨x0,x1,x2⟩:=zd k2;have y0:w2.cell? ⟨bb,off+u*11,none⟩=some (.int .i64 y.B.id):=by
  obtain ⟨y',bb',off',hy',hba',c0,-⟩:=br_at (h.below b02).b u hu;rw [hy] at hy';cases hy';rw [HBA.out] at hba';cases hba';exact c0
 clear x0 x1 x2;have vv:Below w2.heap.size w2 w2.drew:=zG (Below.refl _ _);obtain ⟨x0,x1,x2⟩:=zd k2;go_upto_region 5 with fail
 clear x0 x1 x2 y0;refine wp_region_held_drew (S:=(fun W=>(zcc W w.heap.size 0 (.slice N.ba N.bn N.bc)∧zcc W w.heap.size 1 (.slice N.la N.ln N.lc)∧zcc W w.heap.size 2 (.slice N.sa N.sn N.sc)))) (by kernel_rfl) ((by first | exact HS4.out | exact HS3.out | exact zd (za k2 vv))) (fun hHeld => ?_);refine kK 0 ⟨some 18,.load 28 (.tmp 2),28,"l16_true.go:23",#[],none⟩ ?_;refine kK 1 ⟨some 19,.move (.tmp 1),3,"l16_true.go:23",#[],none⟩ ?_;refine kK 2 ⟨some 20,.load 28 (.tmp 2),28,"l16_true.go:23",#[],none⟩ ?_;refine kK 6 ⟨some 24,.move (.const (.int .i64 0)),3,"l16_true.go:23",#[],none⟩ ?_;refine kR 3 ⟨some 21,.call ⟨.value (.func 12),#[.tmp 20],#[28]⟩,35,"l16_true.go:23",#[⟨2,.data⟩],none⟩ (fun K hK => ?_);go_simp;clear hHeld;refine (zbJ N _ (h.below (zc b02 vv)) h20).mono ?_;rintro e w3 ⟨ua,uc,rfl,ow,hb3⟩;have b03:=zc (zc b02 vv) hb3;have k3:=za (za k2 vv) hb3;have hUL:(upTo N.brs N.ls N.ln).length≤1048576:=Nat.le_trans (zcG N.brs N.ls N.ln) h20;have hGU:=zA (F:=intF) ow;have HS3:=hide (zd k3);clear hb3 ow;go_wp2_with fail
 refine kO hK ((by first | exact HS4.out | exact HS3.out | exact zd (za k2 vv))) fun hHeld => ?_
 clear hK K;refine kR 4 ⟨some 22,.call ⟨.value (.func 15),#[.tmp 18,.tmp 19,.tmp 21],#[28,3,35]⟩,35,"l16_true.go:23",#[⟨0,.data⟩,⟨1,.data⟩,⟨3,.data⟩,⟨3,.chain⟩],none⟩ (fun K hK => ?_);go_simp;clear hHeld;refine (zdn N (u:Int) ua _ uc (upTo N.brs N.ls N.ln) _ (h.below b03) hGU hUL hbn).mono ?_;rintro e w4 ⟨ja,jc,rfl,ow,hb4⟩;have b04:=zc b03 hb4;have k4:=za k3 hb4;have hGJ:=zA (F:=intF) ow;have HS4:=hide (zd k4);have HJI:Hid (∀z∈joined N.bn N.ls (u:Int) (upTo N.brs N.ls N.ln),0≤z∧z < (N.bn:Int)):=hide (fun z=>zhd);have HJL:Hid ((joined N.bn N.ls (u:Int) (upTo N.brs N.ls N.ln)).length≤N.bn):=hide (zgz _ _ _ _);have HR:Hid (zcy N.brs N.ls N.bn (u:Int)=zaZ N.brs (idOf N.brs (u:Int)) (joined N.bn N.ls (u:Int) (upTo N.brs N.ls N.ln)) (joined N.bn N.ls (u:Int) (upTo N.brs N.ls N.ln)).length):=hide (by unfold zcy; rw [HLN.out]);clear hb4 ow hGU hUL;generalize joined N.bn N.ls (u:Int) (upTo N.brs N.ls N.ln)=J at *;go_wp2_with fail
 refine kO hK ((by first | exact HS4.out | exact HS3.out | exact zd (za k2 vv))) fun hHeld => ?_
 clear hK K;refine kK 5 ⟨some 23,.call ⟨.builtin .len,#[.tmp 22],#[35]⟩,3,"l16_true.go:23",#[⟨4,.data⟩],none⟩ ?_;refine wpAnyH_done (by kernel_rfl) ?_ _;clear hHeld vv k2 k3 b02 b03 HS3 HS4;rw [HID.out] at HR;generalize hr0:y.B.id=r0 at *;clear hr0;generalize w4=w5 at *;go_wp2_with fail
 go_loopw [6,8,24] (fun r p i wr=>∃k:Nat,k≤J.length∧i=.int .i64 k∧r=.int .i64 (zaZ N.brs r0 J k)∧wr.heap[w.heap.size]? = some (.cells #[.slice N.ba N.bn N.bc,.slice N.la N.ln N.lc,.slice N.sa N.sn N.sc] 28)∧Below w5.heap.size w5 wr) (fun _ _ i _=>J.length - (intOf i).toNat)
 case atStart=>exact ⟨0,Nat.zero_le _,rfl,rfl,k4,Below.refl _ _⟩
 case round =>
  obtain ⟨k,hk,rfl,rfl,kP,hb⟩:=hrel;have hjl:=HJL.out;obtain ⟨x0,x1,x2⟩:=zd kP;by_cases hlt:k < J.length
  ·have i1:(0:Int)≤(k:Int):=by omega
   have i2:(k:Int) < (J.length:Int):=by omega
   obtain ⟨z,b,o,hz,rfl,c0⟩:=zfv (hGJ.below hb) k hlt;obtain ⟨j1,j2⟩:=HJI.out z (List.mem_of_getElem? hz);obtain ⟨m,rfl⟩:∃m:Nat,z=(m:Int):=⟨z.toNat,by omega⟩;have hm:m < N.bn:=by omega
   obtain ⟨y',bb',off',hy',hba',d0,-⟩:=br_at (h.below (zc b04 hb)).b m hm;rw [hba'] at x0;have HN:Hid (zaZ N.brs r0 J (k+1)=min (zaZ N.brs r0 J k) y'.B.id):=hide (by rw [zfI hz,ziw hy']);have HP:=hide kP;have HB:=hide hb;clear hz hy' kP hb;go_wp2
   go_roundw
   case rel=>exact ⟨k+1,by omega,by go_num,by rw [HN.out],HP.out,HB.out⟩
   case measure=>simp [intOf]; omega
  ·have e:k=J.length:=by omega
   subst e;have HB:=hide (zc b04 hb);have HR2:=HR;clear HR hb;go_wp2;go_ret;exact ⟨by rw [HR2.out]; rfl,HB.out⟩

end Go.Proofs.YtkaefmfopejbaaaGreat
