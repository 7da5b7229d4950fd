/-
  Tables that are drawn: rows, and tables that are made of a new one by changes.
-/
import Derived.Test.YtcpdkcdfnpcemaaGreatPRK10
import Derived.Test.YtcpdkcdfnpcemaaGreatPRK16
namespace Go.Proofs.YtcpdkcdfnpcemaaGreat
set_option maxRecDepth 100000
set_option maxHeartbeats 16000000
open Go.RowKit

def VR.Few (r:VR):Prop:=r.Rng∧0≤r.b∧r.b≤63

structure Fine (v:VT) (p m:Nat):Prop where
 rows:∀r∈v.rows,r.Few
 own:v.own.length=p
 len:v.rows.length≤m

theorem Fine.mono {v:VT} {p m m':Nat} (h:Fine v p m) (hm:m≤m'):Fine v p m':=⟨h.rows,h.own,Nat.le_trans h.len hm⟩

theorem Fine.or {x v:VT} {p m:Nat} (hx:Fine x p m) (hv:Fine v p m):Fine (orV x v).1 p m:=by
 unfold orV
 split
 ·exact hx
 ·exact hv

theorem Fine.set {v:VT} {p m:Nat} (h:Fine v p m) (port id:Int):Fine (zci v port id).1 p (m+1):=by
 unfold zci
 split
 ·exact (Fine.or (x:=⟨v.rows,v.own.set port.toNat id⟩) ⟨h.rows,by simpa using h.own,h.len⟩ h).mono (Nat.le_succ _)
 ·exact h.mono (Nat.le_succ _)

theorem Fine.drop {v:VT} {p m:Nat} (h:Fine v p m) (id:Int):Fine (zbA v id).1 p (m+1):=by
 unfold zbA;cases zI v.rows id with
 | none=>exact h.mono (by omega)
 | some k =>
  simp only
  split
  ·refine (Fine.or (x:=⟨v.rows.take k++v.rows.drop (k+1),v.own⟩) ⟨fun r hr => ?_,h.own, ?_⟩ h).mono (Nat.le_succ _)
   ·rcases List.mem_append.1 hr with hr | hr
    ·exact h.rows r (List.mem_of_mem_take hr)
    ·exact h.rows r (List.mem_of_mem_drop hr)
   ·have:=h.len
    simp
    omega
  ·exact h.mono (by omega)

theorem zf9 (r:VR):∀(l:List VR) (d:Bool) (x:VR),x∈zy l r d→x∈l∨x=r
 | [],d,x,hx=>by
  cases d
  ·simp [zy] at hx
   exact .inr hx
  ·simp [zy] at hx
 | y::t,d,x,hx=>by
  rw [show zy (y::t) r d=(if !d && decide (r.i≤y.i) then [r] else [])++(if y.i != r.i then [y] else [])++zy t r (d || decide (r.i≤y.i)) by simp [zy]] at hx;rcases List.mem_append.1 hx with hx | hx
  ·rcases List.mem_append.1 hx with hx | hx
   ·split at hx
    ·exact .inr (by simpa using hx)
    ·cases hx
   ·split at hx
    ·have e:x=y:=by simpa using hx
     subst e;exact .inl List.mem_cons_self
    ·cases hx
  ·rcases zf9 r t _ x hx with h | h
   ·exact .inl (List.mem_cons_of_mem _ h)
   ·exact .inr h

theorem ze8 (r:VR):∀(l:List VR) (d:Bool),(zy l r d).length≤l.length+(if d then 0 else 1)
 | [],d=>by cases d <;> simp [zy]
 | x::t,d=>by
  have ih:=ze8 r t (d || decide (r.i≤x.i));rw [show zy (x::t) r d=(if !d && decide (r.i≤x.i) then [r] else [])++(if x.i != r.i then [x] else [])++zy t r (d || decide (r.i≤x.i)) by simp [zy]];rw [List.length_append,List.length_append,List.length_cons];have h2:(if x.i != r.i then [x] else ([]:List VR)).length≤1:=by split <;> simp
  generalize (if x.i != r.i then [x] else ([]:List VR))=L at h2 ⊢;cases d
  ·cases h:decide (r.i≤x.i)
   ·rw [h] at ih
    simp at ih ⊢
    omega
   ·rw [h] at ih
    simp at ih ⊢
    omega
  ·simp at ih ⊢
   omega

theorem Fine.row {v:VT} {p m:Nat} (h:Fine v p m) {r:VR} (hr:r.Few):Fine ⟨zy v.rows r false,v.own⟩ p (m+1):=by
 refine ⟨fun x hx => ?_,h.own, ?_⟩
 ·rcases zf9 r v.rows false x hx with hx | rfl
  ·exact h.rows x hx
  ·exact hr
 ·have:=ze8 r v.rows false
  have:=h.len
  simp at *
  omega

theorem Fine.put {v:VT} {p m:Nat} (h:Fine v p m) {r:VR} (hr:r.Few):Fine (zcQ v r).1 p (m+1):=by
 unfold zcQ
 split
 ·exact Fine.or (h.row hr) (h.mono (by omega))
 ·exact h.mono (by omega)

structure VSt (w wr:World) (C:Nat) (a0:Option Addr) (l0 c0:Nat) (z0:List Int) (X B:Nat) (a:Option Addr) (n c:Nat) (o:Option Addr) (p q:Nat) (v:VT):Prop where
 box:wr.heap[X]? = some (.cells #[.slice a n c,.slice o p q] 29)
 own:VOwn wr B a n c o p q v
 res:wr.heap[w.heap.size]? = some (.cells #[.slice none 0 0,.slice none 0 0] 29)
 went:Went w wr C a0 l0 c0 z0
 hC:C < w.heap.size
 hB:w.heap.size < B
 hX:B≤X

theorem VSt.size {w wr:World} {C:Nat} {a0:Option Addr} {l0 c0:Nat} {z0:List Int} {X B:Nat} {a:Option Addr} {n c:Nat} {o:Option Addr} {p q:Nat} {v:VT} (h:VSt w wr C a0 l0 c0 z0 X B a n c o p q v):B≤wr.heap.size:=Nat.le_trans h.hX (Nat.le_of_lt (Array.getElem?_eq_some_iff.1 h.box).1)

theorem VSt.below {w wr wx:World} {C:Nat} {a0:Option Addr} {l0 c0:Nat} {z0:List Int} {X B:Nat} {a:Option Addr} {n c:Nat} {o:Option Addr} {p q:Nat} {v:VT} (h:VSt w wr C a0 l0 c0 z0 X B a n c o p q v) (hb:Below wr.heap.size wr wx):VSt w wx C a0 l0 c0 z0 X B a n c o p q v :=
 ⟨ze h.box hb,h.own.below hb,ze h.res hb,h.went.made hb,h.hC,h.hB,h.hX⟩

theorem VSt.draw {w wr wx:World} {C:Nat} {a0:Option Addr} {l0 c0:Nat} {z0:List Int} {X B:Nat} {a:Option Addr} {n c:Nat} {o:Option Addr} {p q:Nat} {v:VT} (h:VSt w wr C a0 l0 c0 z0 X B a n c o p q v) (g:Went wr wx C a0 l0 c0 z0):VSt w wx C a0 l0 c0 z0 X B a n c o p q v:=by
 have hC:=h.hC;have hB:=h.hB;have hX:=h.hX;have hl:∀b,some C=some b→b < B:=by intro b e; cases e; omega
 exact ⟨zA h.box g.grown (by intro k e; cases e; omega),⟨zN h.own.rows g.grown hl,zN h.own.own g.grown hl,h.own.i64⟩,zA h.res g.grown (by intro k e; cases e; omega),h.went.trans g,hC,hB,hX⟩

theorem zji {w:World} {X:Nat} {x y:Value} {T:TypeId} (hX:w.heap[X]? = some (.cells #[x,y] T)) (u1 u2:Value):((w.setCell ⟨X,0,none⟩ u1).setCell ⟨X,1,none⟩ u2).heap[X]? = some (.cells #[u1,u2] T) :=
 zp (j:=1) (zp (j:=0) hX u1) u2

theorem VOwn.boxed {w:World} {base:Nat} {a:Option Addr} {n c:Nat} {o:Option Addr} {p q:Nat} {v:VT} (h:VOwn w base a n c o p q v) {X:Nat} {x y:Value} (hX:w.heap[X]? = some (.cells #[x,y] 29)) (u1 u2:Value):VOwn ((w.setCell ⟨X,0,none⟩ u1).setCell ⟨X,1,none⟩ u2) base a n c o p q v:=by
 have hX1:=zp (j:=0) hX u1;have r1:=zC h.rows (zl (rb:=X) 0 u1) (zaf h.rows hX (by decide));have o1:=zC h.own (zl (rb:=X) 0 u1) (zaf h.own hX (by decide));exact ⟨zC r1 (zl (rb:=X) 1 u2) (zaf r1 hX1 (by decide)),zC o1 (zl (rb:=X) 1 u2) (zaf o1 hX1 (by decide)),h.i64⟩

theorem VSt.set {w wr:World} {C:Nat} {a0:Option Addr} {l0 c0:Nat} {z0:List Int} {X B:Nat} {a:Option Addr} {n c:Nat} {o:Option Addr} {p q:Nat} {v:VT} (h:VSt w wr C a0 l0 c0 z0 X B a n c o p q v) {a':Option Addr} {n' c':Nat} {o':Option Addr} {p' q':Nat} {v':VT} (hO:VOwn wr B a' n' c' o' p' q' v'):VSt w ((wr.setCell ⟨X,0,none⟩ (.slice a' n' c')).setCell ⟨X,1,none⟩ (.slice o' p' q')) C a0 l0 c0 z0 X B a' n' c' o' p' q' v':=by
 have hC:=h.hC;have hB:=h.hB;have hX:=h.hX;exact ⟨zji h.box _ _,hO.boxed h.box _ _,zx (zx h.res (by omega)) (by omega),h.went.madeAt (zg (zg (Below.refl w.heap.size wr) (by omega) _ _) (by omega) _ _) hC (Nat.le_refl _),hC,hB,hX⟩

theorem VSt.out {w wr:World} {C:Nat} {a0:Option Addr} {l0 c0:Nat} {z0:List Int} {X B:Nat} {a:Option Addr} {n c:Nat} {o:Option Addr} {p q:Nat} {v:VT} (h:VSt w wr C a0 l0 c0 z0 X B a n c o p q v):VOwn ((wr.setCell ⟨w.heap.size,0,none⟩ (.slice a n c)).setCell ⟨w.heap.size,1,none⟩ (.slice o p q)) w.heap.size a n c o p q v∧Went w ((wr.setCell ⟨w.heap.size,0,none⟩ (.slice a n c)).setCell ⟨w.heap.size,1,none⟩ (.slice o p q)) C a0 l0 c0 z0 :=
 ⟨(h.own.boxed h.res _ _).lt (Nat.le_of_lt h.hB),h.went.madeAt (zg (zg (Below.refl w.heap.size wr) (Nat.le_refl _) _ _) (Nat.le_refl _) _ _) h.hC (Nat.le_refl _)⟩

theorem zdo (p:Nat) (h1:1≤p) (h6:p≤6):1≤allOf p∧allOf p≤63:=by
 rcases (show p=1∨p=2∨p=3∨p=4∨p=5∨p=6 by omega) with rfl | rfl | rfl | rfl | rfl | rfl <;> (unfold allOf; omega)

theorem zeb (C:Nat) (a0:Option Addr) (l0 c0:Nat) (z0:List Int) (p:Nat) (hp1:1≤p) (hp6:p≤6) (w:World) (hc:Cur w C a0 l0 c0 z0) :
  Calls Tryz.prog 187 #[.pointer (some ⟨C,0,none⟩),.int .i64 p] w fun e w'=>∃r:VR,e=.returned (.agg #[.int .i64 r.i,.int .i64 r.m,.int .i64 r.b])∧r.Few∧Went w w' C a0 l0 c0 z0:=by
 have hlt:=hc.lt;generalize hw1:w.alloc (Obj.cells #[Value.int .i64 0,Value.int .i64 0,Value.int .i64 0] 119)=w1;have b01:=zb hw1;have k0:=zk hw1;have wn1:=Went.start hc b01;have hall:=zfS p (by omega) (by omega);obtain ⟨hA1,hA2⟩:=zdo p hp1 hp6;generalize allOf p=A at hall hA1 hA2;have hwp:IntKind.u64.wrap (p:Int)=(p:Int):=by rw [IntKind.wrap_u64]; omega
 have hwA:IntKind.i64.wrap (A+1)=A+1:=by rw [IntKind.wrap_i64]; omega
 go_enter Tryz.func187,Tryz.ntmps187;go_wp2_with fail
 refine (zL C a0 l0 c0 z0 (A+1) _ wn1.cur (by omega)).mono ?_;rintro e w2 ⟨m,rfl,hm0,hm1,-,wt2⟩;have hm1:=hm1 (by omega);have wn2:=wn1.trans wt2;have k2:=zA k0 wt2.grown (by intro k e; cases e; omega);clear wt2 wn1;go_wp2_with fail
 refine (zbN C a0 l0 c0 z0 [1,2,3,2] _ _ w2 wn2.cur rfl rfl (by simp) (by simp)).mono ?_;rintro e w3 ⟨i,hi,rfl,wt3⟩;have hi:1≤i∧i≤3:=by simp at hi; omega
 have wn3:=wn2.trans wt3;have k3:=zA k2 wt3.grown (by intro k e; cases e; omega);clear wt3 wn2 k2;go_wp2_with fail
 refine (zL C a0 l0 c0 z0 (A+1) _ wn3.cur (by omega)).mono ?_;rintro e w4 ⟨x,rfl,hx0,hx1,-,wt4⟩;have hx1:=hx1 (by omega);have wn4:=wn3.trans wt4;have k4:=zA k3 wt4.grown (by intro k e; cases e; omega);obtain ⟨hb0,hb1⟩:=zcl m x (by omega);obtain ⟨⟨g0,g1,g2⟩,f0,f1,f2⟩:=zas k4;generalize hbb:bits .and .i64 m x=b at hb0 hb1;have HW:=hide (wn4.madeAt (zg (zg (zg (Below.refl w.heap.size w4) (Nat.le_refl _) 0 (.int .i64 i)) (Nat.le_refl _) 1 (.int .i64 m)) (Nat.le_refl _) 2 (.int .i64 b)) hlt (Nat.le_refl _));have HF:Hid (VR.Few ⟨i,m,b⟩):=hide (by unfold VR.Few VR.Rng I64; simp only; omega);clear wt4 wn4 wn3 k3;go_wp2;exact bodyPost_ret (v:=.agg #[.int .i64 i,.int .i64 m,.int .i64 b]) (by simp [results,Tryz.results187,go_sem, *]) rfl ⟨⟨i,m,b⟩,rfl,HF.out,HW.out⟩

structure zbm (v:VT) (p m:Nat):Prop extends Fine v p m where
 ok:zO v (p:Int)=true

theorem zbm.mono {v:VT} {p m m':Nat} (h:zbm v p m) (hm:m≤m'):zbm v p m':=⟨h.toFine.mono hm,h.ok⟩

theorem or_ok {x v:VT} {p:Nat} (ho:v.own.length=p) (hv:zO v (p:Int)=true):zO (orV x v).1 (p:Int)=true:=by
 unfold orV;rw [ho];cases hx:zO x (p:Int)
 ·exact hv
 ·exact hx

theorem zbm.set {v:VT} {p m:Nat} (h:zbm v p m) (port id:Int):zbm (zci v port id).1 p (m+1):=by
 refine ⟨h.toFine.set port id, ?_⟩;unfold zci
 split
 ·exact or_ok h.own h.ok
 ·exact h.ok

theorem zbm.drop {v:VT} {p m:Nat} (h:zbm v p m) (id:Int):zbm (zbA v id).1 p (m+1):=by
 refine ⟨h.toFine.drop id, ?_⟩;unfold zbA;cases zI v.rows id with
 | none=>exact h.ok
 | some k =>
  simp only
  split
  ·exact or_ok h.own h.ok
  ·exact h.ok

theorem zbm.put {v:VT} {p m:Nat} (h:zbm v p m) {r:VR} (hr:r.Few):zbm (zcQ v r).1 p (m+1):=by
 refine ⟨h.toFine.put hr, ?_⟩;unfold zcQ
 split
 ·exact or_ok h.own h.ok
 ·exact h.ok

theorem zdX {p:Nat} (h:(decide (1≤(p:Int)) && decide ((p:Int)≤6))=true):zO (zbQ p) p=true:=by
 rw [zb7 h];have hp:1≤p∧p≤6:=by simp at h; omega
 rcases (show p=1∨p=2∨p=3∨p=4∨p=5∨p=6 by omega) with rfl | rfl | rfl | rfl | rfl | rfl <;> decide +kernel

theorem zhc (C:Nat) (a0:Option Addr) (l0 c0:Nat) (z0:List Int) (ports:Nat) (hp1:1≤ports) (hp6:ports≤6) (w:World) (hc:Cur w C a0 l0 c0 z0) :
  Calls Tryz.prog 108 #[.pointer (some ⟨C,0,none⟩),.int .i64 ports] w fun e w'=>∃a n c o p q v,e=.returned (.agg #[.slice a n c,.slice o p q])∧VOwn w' w.heap.size a n c o p q v∧zbm v ports 6∧Went w w' C a0 l0 c0 z0:=by
 have hlt:=hc.lt;generalize hw1:w.alloc (Obj.cells #[Value.slice none 0 0,Value.slice none 0 0] 29)=w1;have b01:=zb hw1;have k0:=zk hw1;have z1:w.heap.size < w1.heap.size:=by rw [← hw1]; simp
 have hin:(decide (1≤(ports:Int)) && decide ((ports:Int)≤6))=true:=by simp; omega
 obtain ⟨hA1,hA2⟩:=zdo ports hp1 hp6;have hF0:zbm (zbQ ports) ports 1:=by
  refine ⟨?_,zdX hin⟩;rw [zb7 hin];refine ⟨fun r hr => ?_,by simp,Nat.le_refl _⟩
  have:r=⟨1,allOf ports,allOf ports⟩:=by simpa using hr
  subst this;unfold VR.Few VR.Rng I64
  simp only
  omega
 clear hin hA1 hA2;go_enter Tryz.func108,Tryz.ntmps108;go_wp2_with fail
 refine (zcb (ports:Int) _).mono ?_;rintro e w2 ⟨a,n,c,o,p,q,rfl,t2,hb2⟩;generalize zbQ (ports:Int)=v0 at t2 hF0;obtain ⟨B,hB⟩:∃B,B=w1.heap.size:=⟨_,rfl⟩;generalize hwX:w2.alloc (Obj.cells #[Value.slice a n c,Value.slice o p q] 29)=wX;have b2X:=zb hwX;have st:VSt w wX C a0 l0 c0 z0 w2.heap.size B a n c o p q v0:=⟨by rw [← hwX]; exact zv _ _,by rw [hB]; exact t2.below b2X,ze k0 (zd hb2 b2X),Went.start hc (zd b01 (zd hb2 b2X)),hlt,by rw [hB]; exact z1,by rw [hB]; exact hb2.size⟩;obtain ⟨⟨x0,x1⟩,x2,x3⟩:=zU st.box;clear t2 hb2 b2X k0;go_wp2_with fail
 refine (zL C a0 l0 c0 z0 6 _ st.went.cur (by omega)).mono ?_;rintro e w3 ⟨x,rfl,hx0,hx1,-,wtx⟩;have hx1:=hx1 (by omega);obtain ⟨mx,rfl⟩:∃m:Nat,x=m:=⟨x.toNat,by omega⟩;have st:=st.draw wtx;clear wtx x0 x1 x2 x3 hwX;generalize w2.heap.size=X at st ⊢;go_wp2
 go_loopw [6] (fun i wr=>∃(k:Nat) (a:Option Addr) (n c:Nat) (o:Option Addr) (p q:Nat) (v:VT),k≤5∧i=.int .i64 k∧VSt w wr C a0 l0 c0 z0 X B a n c o p q v∧zbm v ports (6 - k)) (fun i _=>(intOf i).toNat)
 case atStart=>exact ⟨mx,a,n,c,o,p,q,v0,by omega,rfl,st,hF0.mono (by omega)⟩
 case round =>
  clear st hF0;obtain ⟨k,a,n,c,o,p,q,v,hk,rfl,st,hF⟩:=hrel;have hnp:=st.own.len;have hFl:=hF.len;have hFo:=hF.own;have HF:=hide hF;clear hF;by_cases hk0:0 < k
  ·obtain ⟨⟨x0,x1⟩,-⟩:=zU st.box;(go_wp2_with fail);refine (zL C a0 l0 c0 z0 4 _ st.went.cur (by omega)).mono ?_;rintro e w4 ⟨x,rfl,hx0,hx1,-,wtx⟩;have hx1:=hx1 (by omega);have st:=st.draw wtx;clear wtx x0 x1;have st:=st.below (zr (Below.refl _ _));have h78:n≤16777216∧p≤16777216:=by omega
   have HN:=hide hnp;clear hnp hFl hFo;obtain ⟨⟨x0,x1⟩,-⟩:=zU st.box;rcases (show x=0∨x=1∨x=2∨x=3 by omega) with rfl | rfl | rfl | rfl
   ·(go_wp2_with fail);refine wp_region_held_drew (S:=(fun _=>True)) (by kernel_rfl) (trivial) (fun hHeld => ?_)
    repeat' first
    |
     with_reducible refine kLa ?_
     first
     |
      refine kLf 1 ?_;refine kK 1 ?_
     |
      refine kLf 2 ?_;refine kK 2 ?_
     |
      refine kLf 4 ?_;refine kK 4 ?_
     |
      refine kLf 6 ?_;refine kK 6 ?_
     |
      refine kLf 8 ?_;refine kK 8 ?_
     |
      refine kLf 9 ?_;refine kK 9 ?_
     |
      refine kLf 10 ?_;refine kK 10 ?_
     |
      refine kLp [0,3] ?_
     |
      refine kLp [3] ?_
     |
      refine kLp [5] ?_
     |
      refine kLp [7] ?_
     |
      refine kLp [11] ?_
     |
      refine kLp [0,5] ?_
     |
      refine kLp [0] ?_
     |
      refine wpAnyH_done (by kernel_rfl) ?_ _;clear hHeld;go_wp2
      go_roundw
      case rel=>exact ⟨k - 1,a7,n7,c7,o7,p7,q7,V7.1,by omega,by go_num,st,hF.mono (by omega)⟩
      case measure=>simp [intOf]; omega
    |
     exact AllReadyH.nil
    |
     refine kLc 0 (fun K hK => ?_) ?_;go_simp;refine kO hK (trivial) fun hHeld => ?_
     clear hK K
    |
     refine kLc 3 (fun K hK => ?_) ?_;go_simp;refine (zL C a0 l0 c0 z0 (ports:Int) _ st.went.cur (by omega)).mono ?_;rintro e wx ⟨y,rfl,y0,y1,-,wtx⟩;have y1:=y1 (by omega);have st:=st.draw wtx;clear wtx x0 x1;obtain ⟨⟨x0,x1⟩,-⟩:=zU st.box;(go_wp2_with fail);refine kO hK (trivial) fun hHeld => ?_
     clear hK K
    |
     refine kLc 5 (fun K hK => ?_) ?_;go_simp;refine (zL C a0 l0 c0 z0 3 _ st.went.cur (by omega)).mono ?_;rintro e wx ⟨z,rfl,z0,z1,-,wtx⟩;have z1:=z1 (by omega);have st:=st.draw wtx;clear wtx x0 x1;obtain ⟨⟨x0,x1⟩,-⟩:=zU st.box;have hz:IntKind.i64.wrap (1+z)=1+z:=by rw [IntKind.wrap_i64]; omega
     (go_wp2_with fail);refine kO hK (trivial) fun hHeld => ?_
     clear hK K
    |
     refine kLc 7 (fun K hK => ?_) ?_;go_simp;refine (zde a n c o p q v y (1+z) _ st.own.tab (by omega) (by omega) (by omega)).mono ?_;rintro e wx ⟨a7,n7,c7,o7,p7,q7,rfl,hO,hb⟩;have hF:=HF.out.set y (1+z);have hO:=hO.lt (base':=B) st.size;have st:=st.below hb;generalize zci v y (1+z)=V7 at hO hF ⊢;clear hb x0 x1;obtain ⟨⟨x0,x1⟩,-⟩:=zU st.box;(go_wp2_with fail);refine kO hK (trivial) fun hHeld => ?_
     clear hK K
    |
     refine kLc 11 (fun K hK => ?_) ?_;obtain ⟨⟨g0,g1⟩,f0,f1⟩:=zU st.box;go_simp;have st:=st.set hO;clear g0 g1 f0 f1 hO;refine kO hK (trivial) fun hHeld => ?_
     clear hK K
   ·(go_wp2_with fail);refine wp_region_held_drew (S:=(fun _=>True)) (by kernel_rfl) (trivial) (fun hHeld => ?_)
    repeat' first
    |
     with_reducible refine kLa ?_
     first
     |
      refine kLf 1 ?_;refine kK 1 ?_
     |
      refine kLf 3 ?_;refine kK 3 ?_
     |
      refine kLf 5 ?_;refine kK 5 ?_
     |
      refine kLf 6 ?_;refine kK 6 ?_
     |
      refine kLf 7 ?_;refine kK 7 ?_
     |
      refine kLp [0,2] ?_
     |
      refine kLp [2] ?_
     |
      refine kLp [4] ?_
     |
      refine kLp [8] ?_
     |
      refine kLp [0] ?_
     |
      refine wpAnyH_done (by kernel_rfl) ?_ _;clear hHeld;go_wp2
      go_roundw
      case rel=>exact ⟨k - 1,a7,n7,c7,o7,p7,q7,V7.1,by omega,by go_num,st,hF.mono (by omega)⟩
      case measure=>simp [intOf]; omega
    |
     exact AllReadyH.nil
    |
     refine kLc 0 (fun K hK => ?_) ?_;go_simp;refine kO hK (trivial) fun hHeld => ?_
     clear hK K
    |
     refine kLc 2 (fun K hK => ?_) ?_;go_simp;refine (zL C a0 l0 c0 z0 2 _ st.went.cur (by omega)).mono ?_;rintro e wx ⟨z,rfl,z0,z1,-,wtx⟩;have z1:=z1 (by omega);have st:=st.draw wtx;clear wtx x0 x1;obtain ⟨⟨x0,x1⟩,-⟩:=zU st.box;have hz:IntKind.i64.wrap (2+z)=2+z:=by rw [IntKind.wrap_i64]; omega
     (go_wp2_with fail);refine kO hK (trivial) fun hHeld => ?_
     clear hK K
    |
     refine kLc 4 (fun K hK => ?_) ?_;go_simp;refine (zdc a n c o p q v (2+z) _ st.own.tab (by omega) (by omega)).mono ?_;rintro e wx ⟨a7,n7,c7,o7,p7,q7,rfl,hO,hb⟩;have hF:=HF.out.drop (2+z);have hO:=hO.lt (base':=B) st.size;have st:=st.below hb;generalize zbA v (2+z)=V7 at hO hF ⊢;clear hb x0 x1;obtain ⟨⟨x0,x1⟩,-⟩:=zU st.box;(go_wp2_with fail);refine kO hK (trivial) fun hHeld => ?_
     clear hK K
    |
     refine kLc 8 (fun K hK => ?_) ?_;obtain ⟨⟨g0,g1⟩,f0,f1⟩:=zU st.box;go_simp;have st:=st.set hO;clear g0 g1 f0 f1 hO;refine kO hK (trivial) fun hHeld => ?_
     clear hK K
   ·(go_wp2_with fail);refine wp_region_held_drew (S:=(fun _=>True)) (by kernel_rfl) (trivial) (fun hHeld => ?_)
    repeat' first
    |
     with_reducible refine kLa ?_
     first
     |
      refine kLf 1 ?_;refine kK 1 ?_
     |
      refine kLf 2 ?_;refine kK 2 ?_
     |
      refine kLf 5 ?_;refine kK 5 ?_
     |
      refine kLf 6 ?_;refine kK 6 ?_
     |
      refine kLf 7 ?_;refine kK 7 ?_
     |
      refine kLp [0,3] ?_
     |
      refine kLp [3] ?_
     |
      refine kLp [4] ?_
     |
      refine kLp [8] ?_
     |
      refine kLp [0] ?_
     |
      refine wpAnyH_done (by kernel_rfl) ?_ _;clear hHeld;go_wp2
      go_roundw
      case rel=>exact ⟨k - 1,a7,n7,c7,o7,p7,q7,V7.1,by omega,by go_num,st,hF.mono (by omega)⟩
      case measure=>simp [intOf]; omega
    |
     exact AllReadyH.nil
    |
     refine kLc 0 (fun K hK => ?_) ?_;go_simp;refine kO hK (trivial) fun hHeld => ?_
     clear hK K
    |
     refine kLc 3 (fun K hK => ?_) ?_;go_simp;refine (zeb C a0 l0 c0 z0 ports hp1 hp6 _ st.went.cur).mono ?_;rintro e wx ⟨r,rfl,hr,wtx⟩;have st:=st.draw wtx;clear wtx x0 x1;obtain ⟨⟨x0,x1⟩,-⟩:=zU st.box;(go_wp2_with fail);refine kO hK (trivial) fun hHeld => ?_
     clear hK K
    |
     refine kLc 4 (fun K hK => ?_) ?_;go_simp;refine (zcj a n c o p q v r _ st.own.tab (by omega) (by omega)).mono ?_;rintro e wx ⟨a7,n7,c7,o7,p7,q7,rfl,hO,hb⟩;have hF:=HF.out.put hr;have hO:=hO.lt (base':=B) st.size;have st:=st.below hb;generalize zcQ v r=V7 at hO hF ⊢;clear hb x0 x1;obtain ⟨⟨x0,x1⟩,-⟩:=zU st.box;(go_wp2_with fail);refine kO hK (trivial) fun hHeld => ?_
     clear hK K
    |
     refine kLc 8 (fun K hK => ?_) ?_;obtain ⟨⟨g0,g1⟩,f0,f1⟩:=zU st.box;go_simp;have st:=st.set hO;clear g0 g1 f0 f1 hO;refine kO hK (trivial) fun hHeld => ?_
     clear hK K
   ·(go_wp2_with fail);refine wp_region_held_drew (S:=(fun _=>True)) (by kernel_rfl) (trivial) (fun hHeld => ?_)
    repeat' first
    |
     with_reducible refine kLa ?_
     first
     |
      refine kLf 1 ?_;refine kK 1 ?_
     |
      refine kLf 2 ?_;refine kK 2 ?_
     |
      refine kLf 5 ?_;refine kK 5 ?_
     |
      refine kLf 6 ?_;refine kK 6 ?_
     |
      refine kLf 7 ?_;refine kK 7 ?_
     |
      refine kLp [0,3] ?_
     |
      refine kLp [3] ?_
     |
      refine kLp [4] ?_
     |
      refine kLp [8] ?_
     |
      refine kLp [0] ?_
     |
      refine wpAnyH_done (by kernel_rfl) ?_ _;clear hHeld;go_wp2
      go_roundw
      case rel=>exact ⟨k - 1,a7,n7,c7,o7,p7,q7,V7.1,by omega,by go_num,st,hF.mono (by omega)⟩
      case measure=>simp [intOf]; omega
    |
     exact AllReadyH.nil
    |
     refine kLc 0 (fun K hK => ?_) ?_;go_simp;refine kO hK (trivial) fun hHeld => ?_
     clear hK K
    |
     refine kLc 3 (fun K hK => ?_) ?_;go_simp;refine (zeb C a0 l0 c0 z0 ports hp1 hp6 _ st.went.cur).mono ?_;rintro e wx ⟨r,rfl,hr,wtx⟩;have st:=st.draw wtx;clear wtx x0 x1;obtain ⟨⟨x0,x1⟩,-⟩:=zU st.box;(go_wp2_with fail);refine kO hK (trivial) fun hHeld => ?_
     clear hK K
    |
     refine kLc 4 (fun K hK => ?_) ?_;go_simp;refine (zcj a n c o p q v r _ st.own.tab (by omega) (by omega)).mono ?_;rintro e wx ⟨a7,n7,c7,o7,p7,q7,rfl,hO,hb⟩;have hF:=HF.out.put hr;have hO:=hO.lt (base':=B) st.size;have st:=st.below hb;generalize zcQ v r=V7 at hO hF ⊢;clear hb x0 x1;obtain ⟨⟨x0,x1⟩,-⟩:=zU st.box;(go_wp2_with fail);refine kO hK (trivial) fun hHeld => ?_
     clear hK K
    |
     refine kLc 8 (fun K hK => ?_) ?_;obtain ⟨⟨g0,g1⟩,f0,f1⟩:=zU st.box;go_simp;have st:=st.set hO;clear g0 g1 f0 f1 hO;refine kO hK (trivial) fun hHeld => ?_
     clear hK K
  ·obtain ⟨⟨x0,x1⟩,-⟩:=zU st.box;obtain ⟨⟨g0,g1⟩,f0,f1⟩:=zU st.res;have hk':k=0:=by omega
   subst hk';have HO:=hide st.out;clear st hnp hFl hFo;go_wp2;exact bodyPost_ret (v:=.agg #[.slice a n c,.slice o p q]) (by simp [results,Tryz.results108,go_sem, *]) rfl ⟨_,_,_,_,_,_,_,rfl,HO.out.1,HF.out,HO.out.2⟩

end Go.Proofs.YtcpdkcdfnpcemaaGreat
