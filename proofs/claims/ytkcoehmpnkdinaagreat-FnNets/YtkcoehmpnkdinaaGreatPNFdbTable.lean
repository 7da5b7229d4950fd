/-
  The program's table of entries, made of a list.
-/
import Derived.Test.YtkcoehmpnkdinaaGreatPNK26
namespace Go.Proofs.YtkcoehmpnkdinaaGreat
set_option maxRecDepth 100000
set_option maxHeartbeats 16000000
open Go.RowKit

theorem zgz {ops:Array Oper} {o:Oper} {a:Act} {w:World} {K:Act→World→Prop} {Q:Exit→Act→World→Prop} {E:Prop} (hgd:o.guard=none)
  (s x:Operand) (ho:o.op=Op.call { callee:=Callee.builtin Builtin.append,args:=#[s,x],argTypes:=#[177,177] }) (base:Nat)
  (v:Value) (n:Nat) (xs:List FK) (hs:a.eval s=v) (hown:w.ownsRow base 182 3 v n (fkF.all xs)) (ao:Option Addr) (m c:Nat) (zs:List FK)
  (hx:a.eval x=.slice ao m c) (hrow:GRow fkF w ao m c zs) (hsm:n+m≤137438953472) (hbase:base≤w.heap.size)
  (h:∀ao' cap' w',w'.ownsRow base 182 3 (.slice ao' (n+m) cap') (n+m) (fkF.all (xs++zs))→w.grownBy w' v.ownBlock→K (a.put o.dst (.slice ao' (n+m) cap')) w') :
  if Region.wanted o (yielded ops a.tmps)=true then Oper.wp Tryz.prog o a w K Q else E :=
 zI (F:=fkF) hgd s x 177 182 ho base Tryz.underlying177 zlJ rfl (by decide) v n xs hs hown ao m c zs hx hrow hsm hbase (fun ao' cap' w' h1 _ h3 _=>h ao' cap' w' h1 h3)

theorem zim {w:World} {g:Nat} {v0 v1:Value} {T:TypeId} (h:w.heap[g]? = some (.cells #[v0,v1] T)) (u:Value):(w.setCell ⟨g,0,none⟩ u).heap[g]? = some (.cells #[u,v1] T):=by
 have:=heap_setCell_same w g 0 #[v0,v1] T u h
 simpa using this

structure TSt (w wr:World) (k:Nat) (aq:Option Addr) (cq:Nat) (ks:List FK) (g:FK→Option FE) (f:FK→Option Int):Prop where
 box:wr.heap[w.heap.size+1]? = some (.cells #[.slice aq k cq,.map (some w.heap.size)] 180)
 own:wr.ownsRow (w.heap.size+3) 182 3 (.slice aq k cq) k (fkF.all ks)
 me:MapIs mE wr w.heap.size k g
 mc:MapIs mC wr (w.heap.size+2) k f
 bel:Below w.heap.size w wr
 sz:w.heap.size+3≤wr.heap.size

theorem TSt.below {w wr w':World} {k:Nat} {aq:Option Addr} {cq:Nat} {ks:List FK} {g:FK→Option FE} {f:FK→Option Int} (h:TSt w wr k aq cq ks g f) (hb:Below wr.heap.size wr w'):TSt w w' k aq cq ks g f :=
 ⟨za h.box hb,zl h.own hb,h.me.kept hb,h.mc.kept hb,zc h.bel hb,Nat.le_trans h.sz hb.size⟩

theorem TSt.turned {w wr w':World} {k:Nat} {aq:Option Addr} {cq:Nat} {ks:List FK} {g:FK→Option FE} {f:FK→Option Int} (h:TSt w wr k aq cq ks g f) {j:Nat} (hg:wr.grownBy w' (some j)) (hj:j=w.heap.size∨j=w.heap.size+2) :
  w'.heap[w.heap.size+1]? = some (.cells #[.slice aq k cq,.map (some w.heap.size)] 180)∧w'.ownsRow (w.heap.size+3) 182 3 (.slice aq k cq) k (fkF.all ks)∧Below w.heap.size w w'∧w.heap.size+3≤w'.heap.size:=by
 refine ⟨ze h.box hg (fun i hi=>by cases hi; omega),zw h.own hg (fun i hi=>by cases hi; omega),h.bel.grown hg h.bel.size (fun i hi=>by cases hi; omega),Nat.le_trans h.sz hg.size⟩

theorem zhO (ao:Option Addr) (n cap:Nat) (l:List FE) (w:World) (h:GRow fentF w ao n cap l) (hn:n≤16777216) (hR:∀x∈l,x.Rng) :
  Calls Tryz.prog 139 #[.slice ao n cap] w fun r w'=>∃p bm,r=.returned (.pointer (some ⟨p,0,none⟩))∧Tab w' w.heap.size p bm (zaB l) (zaO l)∧Below w.heap.size w w':=by
 have hle:=h.le;have htop:=h.top;unfold maxLen at htop;have hsz:=h.size;have hmm:=@run_makeMap Tryz.prog;have st0:TSt w (((w.alloc (.map #[] 0)).alloc (.cells #[.slice none 0 0,.map (some w.heap.size)] 180)).alloc (.map #[] 0)) 0 none 0 (zaB (l.take 0)) (zaO (l.take 0)) (cntF (l.take 0)):=by
  have e0:=(MapIs.made mE w).kept (zX (w.alloc (.map #[] 0)) (.cells #[.slice none 0 0,.map (some w.heap.size)] 180) (.map #[] 0));have c0:=MapIs.made mC ((w.alloc (.map #[] 0)).alloc (.cells #[.slice none 0 0,.map (some w.heap.size)] 180));rw [show ((w.alloc (.map #[] 0)).alloc (.cells #[.slice none 0 0,.map (some w.heap.size)] 180)).heap.size=w.heap.size+2 by simp] at c0;have x0:=za (zt (w.alloc (.map #[] 0)) (.cells #[.slice none 0 0,.map (some w.heap.size)] 180)) (zg _ (.map #[] 0));rw [show (w.alloc (.map #[] 0)).heap.size=w.heap.size+1 by simp] at x0;exact ⟨x0,World.ownsRow_nil _ _ _ _,e0,(by rw [List.take_zero,zkj]; exact c0),zbb w _ _ _,by simp⟩
 go_enter Tryz.func139,Tryz.ntmps139;go_wp2
 go_loopw [15] (fun i wr=>∃(k:Nat) (aq:Option Addr) (cq:Nat),k≤n∧i=.int .i64 k∧TSt w wr k aq cq (zaB (l.take k)) (zaO (l.take k)) (cntF (l.take k))) (fun i _=>n - (intOf i).toNat)
 case atStart=>exact ⟨0,none,0,Nat.zero_le _,rfl,st0⟩
 case round =>
  obtain ⟨k,aq,cq,hk,rfl,st⟩:=hrel;clear st0;by_cases hlt:k < n
  ·obtain ⟨x,b,off,hx,rfl,a0,a1,a2,a3,a4⟩:=zbH (h.below st.bel) k hlt;have hxR:=hR x (List.mem_of_getElem? hx);have htk:l.take (k+1)=l.take k++[x]:=by rw [List.take_add_one,hx]; rfl
   have HK:=hide (zjx (l.take k) x);have HE:=hide (zjo (l.take k) x);have HC:=hide (zjg (l.take k) x);have HT:=hide htk;have hcg:=zki (l.take k) x.t x.m;have hc1:=zey (l.take k) x.t x.m;have hc2:cnt (l.take k) x.t x.m≤k:=Int.le_trans (zk0 _ _ _) (by rw [List.length_take]; omega);have hok0:FKok (x.t,x.m,0):=⟨hxR.1,hxR.2.1,by simp only; omega⟩;have hki:keyIn (l.take k) x=(x.t,x.m,cnt (l.take k) x.t x.m):=rfl;rw [← HT.out] at HK HE HC;rw [hki] at HK HE;clear hki;generalize hcc:cnt (l.take k) x.t x.m=c at *;have hokc:FKok (x.t,x.m,c):=⟨hxR.1,hxR.2.1,by simp only; omega⟩;have hw:IntKind.i64.wrap (c+1)=c+1:=zcA _ (by omega);have HST:=hide st;have hsw:=st.sz;have howlt:=st.own.lt;clear st hx htk hcc HT;(go_wp2_with fail);refine (zgy x _).mono ?_;rintro r w1 ⟨rfl,hb1⟩;have v1:=zc (zg wr (.cells #[.int .i64 x.t,.int .i64 x.m,.int .i64 x.p,.int .i64 x.a,.bool x.s] 95)) hb1;have kx:=za (zt wr (.cells #[.int .i64 x.t,.int .i64 x.m,.int .i64 x.p,.int .i64 x.a,.bool x.s] 95)) hb1;have v2:=zc v1 (zX w1 (.cells #[.int .i64 x.t,.int .i64 x.m,.int .i64 0] 182) (.cells #[.int .i64 x.t,.int .i64 x.m,.int .i64 0] 182));have s1:=hb1.size;have s1:wr.heap.size+1≤w1.heap.size:=by simpa using s1
   have hlk:(Instr.lookup 199 (.map (some (w.heap.size+2))) (.agg #[.int .i64 x.t,.int .i64 x.m,.int .i64 0]) false).run Tryz.prog ((w1.alloc (.cells #[.int .i64 x.t,.int .i64 x.m,.int .i64 0] 182)).alloc (.cells #[.int .i64 x.t,.int .i64 x.m,.int .i64 0] 182))=.ok (.int .i64 c) ((w1.alloc (.cells #[.int .i64 x.t,.int .i64 x.m,.int .i64 0] 182)).alloc (.cells #[.int .i64 x.t,.int .i64 x.m,.int .i64 0] 182)):=by
    have:=(HST.out.mc.kept v2).look false hok0
    refine this.trans ?_
    show Result.ok (Value.int .i64 ((cntF (l.take k) (x.t,x.m,0)).getD 0)) _=_
    rw [hcg]
   clear a0 a1 a2 a3 a4 hb1 v2;(go_wp2_with fail)
   -- the count
   have stK:=HST.out.below (zc v1 (zX w1 (.cells #[.int .i64 x.t,.int .i64 x.m,.int .i64 0] 182) (.cells #[.int .i64 x.t,.int .i64 x.m,.int .i64 c] 182)));have kx:=za kx (zX w1 (.cells #[.int .i64 x.t,.int .i64 x.m,.int .i64 0] 182) (.cells #[.int .i64 x.t,.int .i64 x.m,.int .i64 c] 182));have kf:=za (zt w1 (.cells #[.int .i64 x.t,.int .i64 x.m,.int .i64 0] 182)) (zg _ (.cells #[.int .i64 x.t,.int .i64 x.m,.int .i64 c] 182));have kk:=zt (w1.alloc (.cells #[.int .i64 x.t,.int .i64 x.m,.int .i64 0] 182)) (.cells #[.int .i64 x.t,.int .i64 x.m,.int .i64 c] 182);rw [show (w1.alloc (.cells #[.int .i64 x.t,.int .i64 x.m,.int .i64 0] 182)).heap.size=w1.heap.size+1 by simp] at kk;clear hlk HST;generalize hwk:(w1.alloc (.cells #[.int .i64 x.t,.int .i64 x.m,.int .i64 0] 182)).alloc (.cells #[.int .i64 x.t,.int .i64 x.m,.int .i64 c] 182)=wk at *;clear hwk;have hlk:(Instr.lookup 199 (.map (some (w.heap.size+2))) (.agg #[.int .i64 x.t,.int .i64 x.m,.int .i64 0]) false).run Tryz.prog wk.drew=.ok (.int .i64 c) wk.drew:=by
    have:=(MapIs.block (w':=wk.drew) stK.mc rfl).look false hok0
    refine this.trans ?_
    show Result.ok (Value.int .i64 ((cntF (l.take k) (x.t,x.m,0)).getD 0)) _=_
    rw [hcg]
   obtain ⟨w2,stamp,hr1,hm1,g1,-,hst1⟩:=(MapIs.block (w':=wk.drew) stK.mc rfl).entry (by unfold maxLen; omega) hok0;obtain ⟨w3,hr2,hm2,g2,-⟩:=hst1 (c+1);have hr1:(Instr.mapEntry 199 (.map (some (w.heap.size+2))) (.agg #[.int .i64 x.t,.int .i64 x.m,.int .i64 0])).run Tryz.prog wk.drew=.ok (.tuple #[.int .i64 c,.int .i64 stamp]) w2:=by
    refine hr1.trans ?_
    show Result.ok (Value.tuple #[Value.int .i64 ((cntF (l.take k) (x.t,x.m,0)).getD 0),_]) _=_
    rw [hcg]
   have hlk2:(Instr.lookup 199 (.map (some (w.heap.size+2))) (.agg #[.int .i64 x.t,.int .i64 x.m,.int .i64 0]) false).run Tryz.prog w2=.ok (.int .i64 c) w2:=by
    have:=hm1.look false hok0
    refine this.trans ?_
    show Result.ok (Value.int .i64 ((upd (cntF (l.take k)) (x.t,x.m,0) (some ((cntF (l.take k) (x.t,x.m,0)).getD 0)) (x.t,x.m,0)).getD 0)) _=_
    rw [zav,hcg]
    rfl
   have hr2:(Instr.entryStore 199 (.map (some (w.heap.size+2))) (.int .i64 stamp) (.int .i64 (c+1))).run Tryz.prog w2=.ok () w3:=hr2;have kfD:wk.drew.heap[w1.heap.size]? = some (.cells #[.int .i64 x.t,.int .i64 x.m,.int .i64 0] 182):=kf;have kf2:=ze kfD g1 (fun i hi=>by cases hi; omega);have kf3:=ze kf2 g2 (fun i hi=>by cases hi; omega);have hS0:=(zaZ kfD).1;have hS1:=(zaZ kf2).1;have hS2:=(zaZ kf3).1;have HKF:=hide kf3;have g12:wk.grownBy w3 (some (w.heap.size+2)):=zM (b:=w2) ⟨g1.os,g1.tape,g1.output,g1.size,g1.block⟩ g2;have st3:TSt w w3 k aq cq (zaB (l.take k)) (zaO (l.take k)) (cntF (l.take (k+1)))∨True:=.inr trivial;obtain ⟨t1,t2,t3,t4⟩:=stK.turned g12 (.inr rfl);have me3:=stK.me.grown g12 (fun e=>by have:=Option.some.inj e; omega);have mc3:MapIs mC w3 (w.heap.size+2) (k+1) (cntF (l.take (k+1))):=by rw [HC.out]; exact hm2
   have kx3:=ze kx g12 (fun i hi=>by cases hi; omega);have kk3:=ze kk g12 (fun i hi=>by cases hi; omega);clear kf kfD kf2 kf3 st3 hst1 hm1 hm2 stK kx kk;refine wp_region_held_drew (S:=(fun W=>(zcc W w1.heap.size 0 (.int .i64 x.t)∧zcc W w1.heap.size 1 (.int .i64 x.m)∧zcc W w1.heap.size 2 (.int .i64 0)))) (by kernel_rfl) (by first | exact hS0 | exact hS1 | exact hS2) (fun hHeld => ?_)
   repeat' first
   |
    with_reducible refine kLa ?_
    first
    |
     refine kLf 0 ?_;refine kK 0 ?_
    |
     refine kLf 1 ?_;refine kK 1 ?_
    |
     refine kLf 3 ?_;refine kK 3 ?_
    |
     refine kLf 5 ?_;refine kK 5 ?_
    |
     refine kLp [2,4] ?_
    |
     refine kLp [4] ?_
    |
     refine kLp [6] ?_
    |
     refine kLp [2] ?_
    |
     refine wpAnyH_done (by kernel_rfl) ?_ _;clear hS0 hS1 hS2 hr1 hr2 hlk hlk2 hHeld;(go_wp2_with fail)
     -- the keys
     have b10:Below w3.heap.size w3 ((w3.alloc (.cells #[.int .i64 x.t,.int .i64 x.m,.int .i64 c] 182)).drew):=zr (zg w3 (.cells #[.int .i64 x.t,.int .i64 x.m,.int .i64 c] 182));have own10:((w3.alloc (.cells #[.int .i64 x.t,.int .i64 x.m,.int .i64 c] 182)).drew).ownsRow (w.heap.size+3) 182 3 (.slice aq k cq) k (fkF.all (zaB (l.take k))):=zl t2 b10;have p10:=za t1 b10;have kk10:=za kk3 b10;have ro10:GRow fkF ((w3.alloc (.cells #[.int .i64 x.t,.int .i64 x.m,.int .i64 c] 182)).drew) (some ⟨w3.heap.size,0,none⟩) 1 1 [(x.t,x.m,c)]:=(zax fkF w3 (x.t,x.m,c) #[.int .i64 x.t,.int .i64 x.m,.int .i64 c] 182 rfl).below (zr (Below.refl _ _));obtain ⟨⟨pd0,-⟩,-⟩:=zG (w:=w3) t1;obtain ⟨⟨pe0,-⟩,-⟩:=zG (w:=w3.alloc (.cells #[.int .i64 x.t,.int .i64 x.m,.int .i64 c] 182)) p10;have hS0:=(zaZ (w:=w3.drew) kk3).1;have hS1:=(zaZ kk10).1;have hbase10:w.heap.size+3≤((w3.alloc (.cells #[.int .i64 x.t,.int .i64 x.m,.int .i64 c] 182)).drew).heap.size:=Nat.le_trans t4 b10.size;refine wp_region_held_drew (S:=(fun W=>(zcc W ((w1.heap.size+1)) 0 (.int .i64 x.t)∧zcc W ((w1.heap.size+1)) 1 (.int .i64 x.m)∧zcc W ((w1.heap.size+1)) 2 (.int .i64 c)))) (by kernel_rfl) (by first | exact hS0 | exact hS1 | exact hS2 | exact hS3) (fun hHeld => ?_);refine kK 0 ?_;refine kK 1 ?_;refine kK 2 ?_;refine kK 3 ?_;refine kK 5 ?_;refine tR [4,6] ?_;refine kC (fun K hK => ?_) ?_
     ·go_simp;refine kO hK (by first | exact hS0 | exact hS1 | exact hS2 | exact hS3) fun hHeld => ?_
      clear hK K;refine kR 6 fun K hK => ?_
      go_simp;refine kO hK (by first | exact hS0 | exact hS1 | exact hS2 | exact hS3) fun hHeld => ?_
      clear hK K;refine kR 7 fun K hK => ?_
      refine zgz rfl _ _ rfl (w.heap.size+3) _ k (zaB (l.take k)) rfl own10 _ 1 1 [(x.t,x.m,c)] rfl ro10 (by omega) hbase10 ?_;intro aq2 cq2 w5 how5 hg5;have g5:w3.grownBy w5 (Value.slice aq k cq).ownBlock:=zM (zdo b10) hg5;have hne5:∀i,(Value.slice aq k cq).ownBlock=some i→w.heap.size+3≤i∧i < wr.heap.size:=howlt;have p5:=ze t1 g5 (fun i hi=>by have:=hne5 i hi; omega);have kk5:=ze kk3 g5 (fun i hi=>by have:=hne5 i hi; omega);have kx5:=ze kx3 g5 (fun i hi=>by have:=hne5 i hi; omega);have me5:=me3.grown g5 (fun e=>by have:=hne5 _ e; omega);have mc5:=mc3.grown g5 (fun e=>by have:=hne5 _ e; omega);have be5:Below w.heap.size w w5:=t3.grown g5 t3.size (fun i hi=>by have:=hne5 i hi; omega);have sz5:=Nat.le_trans t4 g5.size;obtain ⟨⟨pf0,pf1⟩,pz0,pz1⟩:=zG p5;have hS2:=(zaZ kk5).1;have g6:=zm (w:=w5) (rb:=w.heap.size+1) 0 (.slice aq2 (k+1) cq2);have kk6:=ze kk5 g6 (fun i hi=>by cases hi; omega);have hS3:=(zaZ kk6).1;refine kO hK (by first | exact hS0 | exact hS1 | exact hS2 | exact hS3) fun hHeld => ?_
      clear hK K;refine kK 8 ?_;refine kK 9 ?_;refine kR 10 fun K hK => ?_
      go_simp;refine kO hK (by first | exact hS0 | exact hS1 | exact hS2 | exact hS3) fun hHeld => ?_
      clear hK K;refine wpAnyH_done (by kernel_rfl) ?_ _;clear hS0 hS1 hS2 hS3 pd0 pe0 hHeld own10 p10 kk10 b10 ro10;have p6:(w5.setCell ⟨w.heap.size+1,0,none⟩ (.slice aq2 (k+1) cq2)).heap[w.heap.size+1]? = some (.cells #[.slice aq2 (k+1) cq2,.map (some w.heap.size)] 180):=zim p5 _;have o6:=zw how5 g6 (fun i hi=>by cases hi; omega);have kx6:=ze kx5 g6 (fun i hi=>by cases hi; omega);have me6:=me5.grown g6 (fun e=>by have:=Option.some.inj e; omega);have mc6:=mc5.grown g6 (fun e=>by have:=Option.some.inj e; omega);have be6:=be5.grown g6 be5.size (fun i hi=>by cases hi; omega);have sz6:=Nat.le_trans sz5 g6.size;clear p5 kk5 kx5 me5 mc5 be5 sz5 g5 hg5 g6 how5 t1 t2 t3 kk3 kx3 me3 mc3 g12 pf0 pf1 pz0 pz1 hne5;generalize hw6:w5.setCell ⟨w.heap.size+1,0,none⟩ (.slice aq2 (k+1) cq2)=w6 at *;clear hw6;(go_wp2_with fail)
      -- the entry
      obtain ⟨w7,hr7,me7,g7,-⟩:=(MapIs.block (w':=w6.drew) me6 rfl).store (by unfold maxLen; omega) hokc x;have hr7:(Instr.mapUpdate 178 (.map (some w.heap.size)) (.agg #[.int .i64 x.t,.int .i64 x.m,.int .i64 c]) (.agg #[.int .i64 x.t,.int .i64 x.m,.int .i64 x.p,.int .i64 x.a,.bool x.s])).run Tryz.prog w6.drew=.ok () w7:=hr7;have g7:w6.grownBy w7 (some w.heap.size):=⟨g7.os,g7.tape,g7.output,g7.size,g7.block⟩;have p7:=ze p6 g7 (fun i hi=>by cases hi; omega);have kk7:=ze kk6 g7 (fun i hi=>by cases hi; omega);have kx7:=ze kx6 g7 (fun i hi=>by cases hi; omega);have hS0:w6.drew.cell? ⟨w.heap.size+1,1,none⟩=some (.map (some w.heap.size))∧_∧_:=⟨(zG (w:=w6.drew) p6).1.2,(zaZ (w:=w6.drew) kk6).1,(zx (w:=w6.drew) kx6).1⟩;have hS1:w7.cell? ⟨w.heap.size+1,1,none⟩=some (.map (some w.heap.size))∧_∧_:=⟨(zG p7).1.2,(zaZ kk7).1,(zx kx7).1⟩;have HST7:Hid (TSt w w7 (k+1) aq2 cq2 (zaB (l.take (k+1))) (zaO (l.take (k+1))) (cntF (l.take (k+1)))) :=
       ⟨p7,by rw [HK.out]; exact zw o6 g7 (fun i hi=>by cases hi; omega),by rw [HE.out]; exact me7,mc6.grown g7 (fun e=>by have:=Option.some.inj e; omega),be6.grown g7 be6.size (fun i hi=>by cases hi; omega),Nat.le_trans sz6 g7.size⟩
      clear p6 o6 kx6 me6 mc6 be6 sz6 p7 kk7 kx7 me7 kk6 g7;refine wp_region_held_drew (S:=(fun W=>zcc W (w.heap.size+1) 1 (.map (some w.heap.size))∧(zcc W ((w1.heap.size+1)) 0 (.int .i64 x.t)∧zcc W ((w1.heap.size+1)) 1 (.int .i64 x.m)∧zcc W ((w1.heap.size+1)) 2 (.int .i64 c))∧(zcc W wr.heap.size 0 (.int .i64 x.t)∧zcc W wr.heap.size 1 (.int .i64 x.m)∧zcc W wr.heap.size 2 (.int .i64 x.p)∧zcc W wr.heap.size 3 (.int .i64 x.a)∧zcc W wr.heap.size 4 (.bool x.s)))) (by kernel_rfl) (by first | exact hS0 | exact hS1) (fun hHeld => ?_);refine kK 0 ?_;refine kK 1 ?_;refine kK 2 ?_;refine kK 3 ?_;refine kK 4 ?_;refine kK 5 ?_;refine kR 6 fun K hK => ?_
      go_simp;refine kO hK (by first | exact hS0 | exact hS1) fun hHeld => ?_
      clear hK K;refine wpAnyH_done (by kernel_rfl) ?_ _;clear hS0 hS1 hr7 hHeld;go_wp2
      go_roundw
      case rel=>exact ⟨k+1,aq2,cq2,by omega,by go_num,HST7.out⟩
      case measure=>simp [intOf]; omega
     refine kC (fun K hK => ?_) ?_
     ·go_simp;refine kO hK (by first | exact hS0 | exact hS1 | exact hS2 | exact hS3) fun hHeld => ?_
      clear hK K;refine kR 4 fun K hK => ?_
      go_simp;refine kO hK (by first | exact hS0 | exact hS1 | exact hS2 | exact hS3) fun hHeld => ?_
      clear hK K;refine kR 7 fun K hK => ?_
      refine zgz rfl _ _ rfl (w.heap.size+3) _ k (zaB (l.take k)) rfl own10 _ 1 1 [(x.t,x.m,c)] rfl ro10 (by omega) hbase10 ?_;intro aq2 cq2 w5 how5 hg5;have g5:w3.grownBy w5 (Value.slice aq k cq).ownBlock:=zM (zdo b10) hg5;have hne5:∀i,(Value.slice aq k cq).ownBlock=some i→w.heap.size+3≤i∧i < wr.heap.size:=howlt;have p5:=ze t1 g5 (fun i hi=>by have:=hne5 i hi; omega);have kk5:=ze kk3 g5 (fun i hi=>by have:=hne5 i hi; omega);have kx5:=ze kx3 g5 (fun i hi=>by have:=hne5 i hi; omega);have me5:=me3.grown g5 (fun e=>by have:=hne5 _ e; omega);have mc5:=mc3.grown g5 (fun e=>by have:=hne5 _ e; omega);have be5:Below w.heap.size w w5:=t3.grown g5 t3.size (fun i hi=>by have:=hne5 i hi; omega);have sz5:=Nat.le_trans t4 g5.size;obtain ⟨⟨pf0,pf1⟩,pz0,pz1⟩:=zG p5;have hS2:=(zaZ kk5).1;have g6:=zm (w:=w5) (rb:=w.heap.size+1) 0 (.slice aq2 (k+1) cq2);have kk6:=ze kk5 g6 (fun i hi=>by cases hi; omega);have hS3:=(zaZ kk6).1;refine kO hK (by first | exact hS0 | exact hS1 | exact hS2 | exact hS3) fun hHeld => ?_
      clear hK K;refine kK 8 ?_;refine kK 9 ?_;refine kR 10 fun K hK => ?_
      go_simp;refine kO hK (by first | exact hS0 | exact hS1 | exact hS2 | exact hS3) fun hHeld => ?_
      clear hK K;refine wpAnyH_done (by kernel_rfl) ?_ _;clear hS0 hS1 hS2 hS3 pd0 pe0 hHeld own10 p10 kk10 b10 ro10;have p6:(w5.setCell ⟨w.heap.size+1,0,none⟩ (.slice aq2 (k+1) cq2)).heap[w.heap.size+1]? = some (.cells #[.slice aq2 (k+1) cq2,.map (some w.heap.size)] 180):=zim p5 _;have o6:=zw how5 g6 (fun i hi=>by cases hi; omega);have kx6:=ze kx5 g6 (fun i hi=>by cases hi; omega);have me6:=me5.grown g6 (fun e=>by have:=Option.some.inj e; omega);have mc6:=mc5.grown g6 (fun e=>by have:=Option.some.inj e; omega);have be6:=be5.grown g6 be5.size (fun i hi=>by cases hi; omega);have sz6:=Nat.le_trans sz5 g6.size;clear p5 kk5 kx5 me5 mc5 be5 sz5 g5 hg5 g6 how5 t1 t2 t3 kk3 kx3 me3 mc3 g12 pf0 pf1 pz0 pz1 hne5;generalize hw6:w5.setCell ⟨w.heap.size+1,0,none⟩ (.slice aq2 (k+1) cq2)=w6 at *;clear hw6;(go_wp2_with fail)
      -- the entry
      obtain ⟨w7,hr7,me7,g7,-⟩:=(MapIs.block (w':=w6.drew) me6 rfl).store (by unfold maxLen; omega) hokc x;have hr7:(Instr.mapUpdate 178 (.map (some w.heap.size)) (.agg #[.int .i64 x.t,.int .i64 x.m,.int .i64 c]) (.agg #[.int .i64 x.t,.int .i64 x.m,.int .i64 x.p,.int .i64 x.a,.bool x.s])).run Tryz.prog w6.drew=.ok () w7:=hr7;have g7:w6.grownBy w7 (some w.heap.size):=⟨g7.os,g7.tape,g7.output,g7.size,g7.block⟩;have p7:=ze p6 g7 (fun i hi=>by cases hi; omega);have kk7:=ze kk6 g7 (fun i hi=>by cases hi; omega);have kx7:=ze kx6 g7 (fun i hi=>by cases hi; omega);have hS0:w6.drew.cell? ⟨w.heap.size+1,1,none⟩=some (.map (some w.heap.size))∧_∧_:=⟨(zG (w:=w6.drew) p6).1.2,(zaZ (w:=w6.drew) kk6).1,(zx (w:=w6.drew) kx6).1⟩;have hS1:w7.cell? ⟨w.heap.size+1,1,none⟩=some (.map (some w.heap.size))∧_∧_:=⟨(zG p7).1.2,(zaZ kk7).1,(zx kx7).1⟩;have HST7:Hid (TSt w w7 (k+1) aq2 cq2 (zaB (l.take (k+1))) (zaO (l.take (k+1))) (cntF (l.take (k+1)))) :=
       ⟨p7,by rw [HK.out]; exact zw o6 g7 (fun i hi=>by cases hi; omega),by rw [HE.out]; exact me7,mc6.grown g7 (fun e=>by have:=Option.some.inj e; omega),be6.grown g7 be6.size (fun i hi=>by cases hi; omega),Nat.le_trans sz6 g7.size⟩
      clear p6 o6 kx6 me6 mc6 be6 sz6 p7 kk7 kx7 me7 kk6 g7;refine wp_region_held_drew (S:=(fun W=>zcc W (w.heap.size+1) 1 (.map (some w.heap.size))∧(zcc W ((w1.heap.size+1)) 0 (.int .i64 x.t)∧zcc W ((w1.heap.size+1)) 1 (.int .i64 x.m)∧zcc W ((w1.heap.size+1)) 2 (.int .i64 c))∧(zcc W wr.heap.size 0 (.int .i64 x.t)∧zcc W wr.heap.size 1 (.int .i64 x.m)∧zcc W wr.heap.size 2 (.int .i64 x.p)∧zcc W wr.heap.size 3 (.int .i64 x.a)∧zcc W wr.heap.size 4 (.bool x.s)))) (by kernel_rfl) (by first | exact hS0 | exact hS1) (fun hHeld => ?_);refine kK 0 ?_;refine kK 1 ?_;refine kK 2 ?_;refine kK 3 ?_;refine kK 4 ?_;refine kK 5 ?_;refine kR 6 fun K hK => ?_
      go_simp;refine kO hK (by first | exact hS0 | exact hS1) fun hHeld => ?_
      clear hK K;refine wpAnyH_done (by kernel_rfl) ?_ _;clear hS0 hS1 hr7 hHeld;go_wp2
      go_roundw
      case rel=>exact ⟨k+1,aq2,cq2,by omega,by go_num,HST7.out⟩
      case measure=>simp [intOf]; omega
     exact AllReadyH.nil
   |
    exact AllReadyH.nil
   |
    refine kLc 2 (fun K hK => ?_) ?_;go_simp;refine kO hK (by first | exact hS0 | exact hS1 | exact hS2) fun hHeld => ?_
    clear hK K
   |
    refine kLc 4 (fun K hK => ?_) ?_;go_simp;refine kO hK (by first | exact hS0 | exact hS1 | exact hS2) fun hHeld => ?_
    clear hK K
   |
    refine kLc 6 (fun K hK => ?_) ?_;go_simp;refine kO hK (by first | exact hS0 | exact hS1 | exact hS2) fun hHeld => ?_
    clear hK K
  ·have hkn:k=n:=by omega
   subst hkn;have how:=st.own;have hme:=st.me;have hbx:=st.box;rw [List.take_of_length_le (by omega)] at how hme;have hkl:=zhu l;have HT:Hid (Tab wr w.heap.size (w.heap.size+1) w.heap.size (zaB l) (zaO l)):=⟨⟨aq,cq,by rw [hkl,hsz]; exact hbx,by rw [hkl,hsz]; exact zL how (by omega)⟩,hme.mono (by omega),by omega,Nat.le_refl _,zlj hR (by omega),by omega⟩;have HB:=hide st.bel;clear how hme hbx st;go_wp2;go_ret;exact ⟨_,_,rfl,HT.out,HB.out⟩

end Go.Proofs.YtkcoehmpnkdinaaGreat
