/-
  Packed: VtabCopy VtabOr VtabRowM BrOwn VtabNewS FdbPutS FdbRestS BrPorts FdbImplL0 CloneI.
-/
import Derived.Test.YtkaefmfopejbaaaGreatPAFdbOkS
import Derived.Test.YtkaefmfopejbaaaGreatPAK03
import Derived.Test.YtkaefmfopejbaaaGreatPAVtabOkS
namespace Go.Proofs.YtkaefmfopejbaaaGreat
set_option maxRecDepth 100000
set_option maxHeartbeats 16000000
open Go.RowKit

def intF:Flat Int where
 k:=1
 cs:=fun x=>[.int .i64 x]
 len:=fun _=>rfl
 pos:=by decide
 one:=fun _ v hv=>by
  simp only [List.mem_cons,List.not_mem_nil,or_false] at hv;subst hv
  rfl

theorem zbw:∀(l:List Int),intF.all l=cI l
 | []=>rfl
 | x::l=>by
  have:=zbw l
  rw [Flat.all_cons,this]
  rfl

theorem IRow.flat {w:World} {ao:Option Addr} {n c:Nat} {l:List Int} (h:IRow w ao n c l):GRow intF w ao n c l where
 size:=h.size
 le:=h.le
 top:=h.top
 nil:=h.nil
 cell:=by
  rcases h.cell with h0 | ⟨b,off,ha,hc⟩
  ·exact .inl h0
  ·refine .inr ⟨b,off,ha,fun i x hi j v hv => ?_⟩;have hl:=(List.getElem?_eq_some_iff.1 hi).1;have hs:=h.size
   have:=hc i (by omega)
   rw [List.getD_eq_getElem?_getD,hi] at this
   match j,hv with
   | 0,hv =>
    cases hv
    show w.cell? ⟨b,off+i*1+0,none⟩=_
    rw [Nat.mul_one,Nat.add_zero];exact this
   | j+1,hv=>simp [intF] at hv

theorem ze1:(Tryz.prog.info? 167).map (fun i=>(i.zero,i.size,i.bytes))=some (some (.agg #[.int .i64 0,.int .i64 0,.int .i64 0]),vrowF.k,24):=by kernel_rfl

theorem zD {w w':World} {base k:Nat} {e:TypeId} {v:Value} {n:Nat} {xs:List Value} (h:w.ownsRow base e k v n xs) {base2 k2:Nat} {e2:TypeId} {v2:Value} {n2:Nat} {xs2:List Value} (h2:w.ownsRow base2 e2 k2 v2 n2 xs2) (hne:(e:Nat)≠e2) (hg:w.grownBy w' v2.ownBlock):w'.ownsRow base e k v n xs:=by
 refine h.kept hg ?_;obtain ⟨-,h | ⟨g,cap,cur,e1,-,hh,-⟩⟩:=h
 ·rw [h.1]; exact .inl rfl
 ·obtain ⟨-,h2 | ⟨g2,cap2,cur2,e2',-,hh2,-⟩⟩:=h2
  ·rw [h2.1]; exact .inr (by rw [e1]; intro hc; cases hc)
  ·refine .inr (fun hc => ?_);rw [e1,e2'] at hc;have hgg:g=g2:=by simpa [Value.ownBlock] using hc
   subst hgg;rw [hh] at hh2;cases hh2;exact hne rfl

structure VOwn (w:World) (base:Nat) (a:Option Addr) (n c:Nat) (o:Option Addr) (p q:Nat) (v:VT):Prop where
 rows:w.ownsRow base 167 3 (.slice a n c) n (vrowF.all v.rows)
 own:w.ownsRow base 3 1 (.slice o p q) p (cI v.own)
 i64:I64s v.own

theorem VOwn.tab {w:World} {base:Nat} {a:Option Addr} {n c:Nat} {o:Option Addr} {p q:Nat} {v:VT} (h:VOwn w base a n c o p q v):VTab w a n c o p q v:=⟨zC (F:=vrowF) h.rows,zdi h.own h.i64⟩

theorem zf6 (a:Option Addr) (n c:Nat) (o:Option Addr) (p q:Nat) (v:VT) (w:World) (h:VTab w a n c o p q v) (hn:n≤16777216) (hp:p≤16777216) :
  Calls Tryz.prog 133 #[.agg #[.slice a n c,.slice o p q]] w fun r w'=>∃a' c' o' q',r=.returned (.agg #[.slice a' n c',.slice o' p q'])∧VOwn w' w.heap.size a' n c' o' p q' v∧Below w.heap.size w w':=by
 generalize hw1:w.alloc (Obj.cells #[Value.slice a n c,Value.slice o p q] 42)=w1;generalize hw2:w1.alloc (Obj.cells #[Value.slice none 0 0,Value.slice none 0 0] 42)=w2;have s1:w1.heap.size=w.heap.size+1:=by subst hw1; simp
 have s2:w2.heap.size=w.heap.size+1+1:=by subst hw2; simp [s1]
 have hk1:=zk hw2;have b01:=zb hw1;have vb:Below w1.heap.size w1 w2.drew:=by subst hw2; exact zq (zl _ _)
 have bw:Below w.heap.size w w2:=by subst hw2; exact zc b01 (zl _ _)
 have vv:Below w2.heap.size w2 w2.drew:=zq (Below.refl _ _);have h12:w1.heap.size≤w2.heap.size:=by omega
 have S1:=hide s1;have S2:=hide s2;have H12:=hide h12;have HL:Hid (∀b,some w1.heap.size=some b→b < w2.heap.size):=hide (by intro b hb; cases hb; omega);clear s1 s2 h12;go_enter Tryz.func133,Tryz.ntmps133;go_wp2_with fail
 refine wp_region_held_drew (S:=(fun W=>zcc W w.heap.size 0 (.slice a n c)∧zcc W w.heap.size 1 (.slice o p q))) (by kernel_rfl) (zay hw1 vb) (fun hHeld => ?_);refine kK 1 ?_;refine kK 2 ?_;refine kK 5 ?_;refine kK 6 ?_;refine tR [0,4] ?_;refine kC (fun K hK => ?_) ?_
 ·go_simp
  first
  | refine zw (K:=K _) (fun wx hk hbx => ?_)
  | refine zo (K:=K _) (fun wx hk hbx => ?_)
  (try have hI:=zh hI hbx);have hR:=zaG vrowF w2 wx 167 _ hk vv.size;have vv:=zc vv hbx;have vb:=zc vb hbx;clear hk hbx;refine kO hK (zay hw1 vb) fun hHeld => ?_
  clear hK K;refine tR [3,4] ?_;refine kC (fun K hK => ?_) ?_
  ·refine zi (F:=vrowF) rfl _ _ 40 167 rfl w2.heap.size Tryz.underlying40 ze1 rfl (by decide) _ 0 [] rfl hR a n c v.rows rfl (h.rows.below (zc bw vv)) (by omega) vv.size ?_;intro aohR cphR wx how hrow hgr hbx;(try have hI:=zD hI hR (by decide) hgr);have hR:=how;have vv:=vv.trans hbx;have vb:=vb.trans (hbx.mono H12.out);clear how hrow hgr hbx;simp only [Nat.zero_add,List.nil_append] at hR ⊢;refine kO hK (zay hw1 vb) fun hHeld => ?_
   clear hK K;refine kR 4 fun K hK => ?_
   go_simp
   first
   | refine zw (K:=K _) (fun wx hk hbx => ?_)
   | refine zo (K:=K _) (fun wx hk hbx => ?_)
   (try have hR:=zh hR hbx);have hI:=zaG intF w2 wx 3 _ hk vv.size;have vv:=zc vv hbx;have vb:=zc vb hbx;clear hk hbx;refine kO hK (zay hw1 vb) fun hHeld => ?_
   clear hK K;refine kR 7 fun K hK => ?_
   refine zi (F:=intF) rfl _ _ 35 3 rfl w2.heap.size Tryz.underlying35 Tryz.infoI64 rfl (by decide) _ 0 [] rfl hI o p q v.own rfl ((h.own.below (zc bw vv)).flat) (by omega) vv.size ?_;intro aohI cphI wx how hrow hgr hbx;(try have hR:=zD hR hI (by decide) hgr);have hI:=how;have vv:=vv.trans hbx;have vb:=vb.trans (hbx.mono H12.out);clear how hrow hgr hbx;simp only [Nat.zero_add,List.nil_append] at hI ⊢;refine kO hK (zay hw1 vb) fun hHeld => ?_
   clear hK K;refine kK 8 ?_;refine kR 9 fun K hK => ?_
   obtain ⟨⟨g0,g1⟩,f0,f1⟩:=zaC (za hk1 vv);go_simp;have hR:=zL (zL hR (zj (rb:=w1.heap.size) 0 (.slice aohR n cphR)) HL.out) (zj (rb:=w1.heap.size) 1 (.slice aohI p cphI)) HL.out;have hI:=zL (zL hI (zj (rb:=w1.heap.size) 0 (.slice aohR n cphR)) HL.out) (zj (rb:=w1.heap.size) 1 (.slice aohI p cphI)) HL.out;have vb:=zr (zr vb (Nat.le_refl _) 0 (.slice aohR n cphR)) (Nat.le_refl _) 1 (.slice aohI p cphI);refine kO hK (zay hw1 vb) fun hHeld => ?_
   clear hK K;refine wpAnyH_done (by kernel_rfl) ?_ _;have HR:=hide hR;have HI:=hide hI;clear hR hI;go_wp2;refine bodyPost_ret (v:=.agg #[.slice aohR n cphR,.slice aohI p cphI]) (by simp [results,Tryz.results133,go_sem, *]) rfl ⟨_,_,_,_,rfl,⟨zH HR.out bw.size,zH (by rw [← zbw]; exact HI.out) bw.size,h.own.byte⟩,zc b01 vb⟩
  refine kC (fun K hK => ?_) ?_
  ·go_simp
   first
   | refine zw (K:=K _) (fun wx hk hbx => ?_)
   | refine zo (K:=K _) (fun wx hk hbx => ?_)
   (try have hR:=zh hR hbx);have hI:=zaG intF w2 wx 3 _ hk vv.size;have vv:=zc vv hbx;have vb:=zc vb hbx;clear hk hbx;refine kO hK (zay hw1 vb) fun hHeld => ?_
   clear hK K;refine kR 3 fun K hK => ?_
   refine zi (F:=vrowF) rfl _ _ 40 167 rfl w2.heap.size Tryz.underlying40 ze1 rfl (by decide) _ 0 [] rfl hR a n c v.rows rfl (h.rows.below (zc bw vv)) (by omega) vv.size ?_;intro aohR cphR wx how hrow hgr hbx;(try have hI:=zD hI hR (by decide) hgr);have hR:=how;have vv:=vv.trans hbx;have vb:=vb.trans (hbx.mono H12.out);clear how hrow hgr hbx;simp only [Nat.zero_add,List.nil_append] at hR ⊢;refine kO hK (zay hw1 vb) fun hHeld => ?_
   clear hK K;refine kR 7 fun K hK => ?_
   refine zi (F:=intF) rfl _ _ 35 3 rfl w2.heap.size Tryz.underlying35 Tryz.infoI64 rfl (by decide) _ 0 [] rfl hI o p q v.own rfl ((h.own.below (zc bw vv)).flat) (by omega) vv.size ?_;intro aohI cphI wx how hrow hgr hbx;(try have hR:=zD hR hI (by decide) hgr);have hI:=how;have vv:=vv.trans hbx;have vb:=vb.trans (hbx.mono H12.out);clear how hrow hgr hbx;simp only [Nat.zero_add,List.nil_append] at hI ⊢;refine kO hK (zay hw1 vb) fun hHeld => ?_
   clear hK K;refine kK 8 ?_;refine kR 9 fun K hK => ?_
   obtain ⟨⟨g0,g1⟩,f0,f1⟩:=zaC (za hk1 vv);go_simp;have hR:=zL (zL hR (zj (rb:=w1.heap.size) 0 (.slice aohR n cphR)) HL.out) (zj (rb:=w1.heap.size) 1 (.slice aohI p cphI)) HL.out;have hI:=zL (zL hI (zj (rb:=w1.heap.size) 0 (.slice aohR n cphR)) HL.out) (zj (rb:=w1.heap.size) 1 (.slice aohI p cphI)) HL.out;have vb:=zr (zr vb (Nat.le_refl _) 0 (.slice aohR n cphR)) (Nat.le_refl _) 1 (.slice aohI p cphI);refine kO hK (zay hw1 vb) fun hHeld => ?_
   clear hK K;refine wpAnyH_done (by kernel_rfl) ?_ _;have HR:=hide hR;have HI:=hide hI;clear hR hI;go_wp2;refine bodyPost_ret (v:=.agg #[.slice aohR n cphR,.slice aohI p cphI]) (by simp [results,Tryz.results133,go_sem, *]) rfl ⟨_,_,_,_,rfl,⟨zH HR.out bw.size,zH (by rw [← zbw]; exact HI.out) bw.size,h.own.byte⟩,zc b01 vb⟩
  exact AllReadyH.nil
 refine kC (fun K hK => ?_) ?_
 ·go_simp
  first
  | refine zw (K:=K _) (fun wx hk hbx => ?_)
  | refine zo (K:=K _) (fun wx hk hbx => ?_)
  (try have hR:=zh hR hbx);have hI:=zaG intF w2 wx 3 _ hk vv.size;have vv:=zc vv hbx;have vb:=zc vb hbx;clear hk hbx;refine kO hK (zay hw1 vb) fun hHeld => ?_
  clear hK K;refine kR 0 fun K hK => ?_
  go_simp
  first
  | refine zw (K:=K _) (fun wx hk hbx => ?_)
  | refine zo (K:=K _) (fun wx hk hbx => ?_)
  (try have hI:=zh hI hbx);have hR:=zaG vrowF w2 wx 167 _ hk vv.size;have vv:=zc vv hbx;have vb:=zc vb hbx;clear hk hbx;refine kO hK (zay hw1 vb) fun hHeld => ?_
  clear hK K;refine kR 3 fun K hK => ?_
  refine zi (F:=vrowF) rfl _ _ 40 167 rfl w2.heap.size Tryz.underlying40 ze1 rfl (by decide) _ 0 [] rfl hR a n c v.rows rfl (h.rows.below (zc bw vv)) (by omega) vv.size ?_;intro aohR cphR wx how hrow hgr hbx;(try have hI:=zD hI hR (by decide) hgr);have hR:=how;have vv:=vv.trans hbx;have vb:=vb.trans (hbx.mono H12.out);clear how hrow hgr hbx;simp only [Nat.zero_add,List.nil_append] at hR ⊢;refine kO hK (zay hw1 vb) fun hHeld => ?_
  clear hK K;refine kR 7 fun K hK => ?_
  refine zi (F:=intF) rfl _ _ 35 3 rfl w2.heap.size Tryz.underlying35 Tryz.infoI64 rfl (by decide) _ 0 [] rfl hI o p q v.own rfl ((h.own.below (zc bw vv)).flat) (by omega) vv.size ?_;intro aohI cphI wx how hrow hgr hbx;(try have hR:=zD hR hI (by decide) hgr);have hI:=how;have vv:=vv.trans hbx;have vb:=vb.trans (hbx.mono H12.out);clear how hrow hgr hbx;simp only [Nat.zero_add,List.nil_append] at hI ⊢;refine kO hK (zay hw1 vb) fun hHeld => ?_
  clear hK K;refine kK 8 ?_;refine kR 9 fun K hK => ?_
  obtain ⟨⟨g0,g1⟩,f0,f1⟩:=zaC (za hk1 vv);go_simp;have hR:=zL (zL hR (zj (rb:=w1.heap.size) 0 (.slice aohR n cphR)) HL.out) (zj (rb:=w1.heap.size) 1 (.slice aohI p cphI)) HL.out;have hI:=zL (zL hI (zj (rb:=w1.heap.size) 0 (.slice aohR n cphR)) HL.out) (zj (rb:=w1.heap.size) 1 (.slice aohI p cphI)) HL.out;have vb:=zr (zr vb (Nat.le_refl _) 0 (.slice aohR n cphR)) (Nat.le_refl _) 1 (.slice aohI p cphI);refine kO hK (zay hw1 vb) fun hHeld => ?_
  clear hK K;refine wpAnyH_done (by kernel_rfl) ?_ _;have HR:=hide hR;have HI:=hide hI;clear hR hI;go_wp2;refine bodyPost_ret (v:=.agg #[.slice aohR n cphR,.slice aohI p cphI]) (by simp [results,Tryz.results133,go_sem, *]) rfl ⟨_,_,_,_,rfl,⟨zH HR.out bw.size,zH (by rw [← zbw]; exact HI.out) bw.size,h.own.byte⟩,zc b01 vb⟩
 exact AllReadyH.nil

theorem VOwn.below {w w':World} {base:Nat} {a:Option Addr} {n c:Nat} {o:Option Addr} {p q:Nat} {v:VT} (h:VOwn w base a n c o p q v) (hb:Below w.heap.size w w'):VOwn w' base a n c o p q v :=
 ⟨zh h.rows hb,zh h.own hb,h.i64⟩

theorem VOwn.lt {w:World} {base base':Nat} {a:Option Addr} {n c:Nat} {o:Option Addr} {p q:Nat} {v:VT} (h:VOwn w base a n c o p q v) (hle:base'≤base):VOwn w base' a n c o p q v :=
 ⟨zH h.rows hle,zH h.own hle,h.i64⟩

theorem VOwn.set2 {w:World} {base:Nat} {a:Option Addr} {n c:Nat} {o:Option Addr} {p q:Nat} {v:VT} (h:VOwn w base a n c o p q v) {g:Nat} (hg:g < base) (u1 u2:Value):VOwn ((w.setCell ⟨g,0,none⟩ u1).setCell ⟨g,1,none⟩ u2) base a n c o p q v:=by
 have hl:∀b,some g=some b→b < base:=by intro b hb; cases hb; exact hg
 exact ⟨zL (zL h.rows (zj (rb:=g) 0 u1) hl) (zj (rb:=g) 1 u2) hl,zL (zL h.own (zj (rb:=g) 0 u1) hl) (zj (rb:=g) 1 u2) hl,h.i64⟩

theorem zA {w:World} {base k:Nat} {e:TypeId} {v:Value} {n:Nat} {xs:List Value} (h:w.ownsRow base e k v n xs) {X:Nat} {cs:Array Value} {T:TypeId} (hX:w.heap[X]? = some (.cells cs T)) (hne:(e:Nat)≠T):∀b,v.ownBlock=some b→b≠X:=by
 obtain ⟨-,h | ⟨g,cap,cur,rfl,-,hh,-⟩⟩:=h
 ·rw [h.1]; intro b hb; cases hb
 ·intro b hb e
  have:g=b:=by simpa [Value.ownBlock] using hb
  subst this e;rw [hh] at hX;cases hX;exact hne rfl

structure BrOwn (w:World) (base:Nat) (a:Option Addr) (n c:Nat) (fa:Option Addr) (fn fc:Nat) (ra:Option Addr) (rn rc:Nat) (oa:Option Addr) (on oc:Nat) (B:BR):Prop where
 ports:w.ownsRow base 53 8 (.slice a n c) n (ptF.all B.ports)
 f:w.ownsRow base 145 5 (.slice fa fn fc) fn (fentF.all B.f)
 v:VOwn w base ra rn rc oa on oc B.v

theorem BrOwn.row {w:World} {base:Nat} {a:Option Addr} {n c:Nat} {fa:Option Addr} {fn fc:Nat} {ra:Option Addr} {rn rc:Nat} {oa:Option Addr} {on oc:Nat} {B:BR} (h:BrOwn w base a n c fa fn fc ra rn rc oa on oc B):BrRow w a n c fa fn fc ra rn rc oa on oc B :=
 ⟨zC (F:=ptF) h.ports,zC (F:=fentF) h.f,h.v.tab⟩

theorem BrOwn.below {w w':World} {base:Nat} {a:Option Addr} {n c:Nat} {fa:Option Addr} {fn fc:Nat} {ra:Option Addr} {rn rc:Nat} {oa:Option Addr} {on oc:Nat} {B:BR} (h:BrOwn w base a n c fa fn fc ra rn rc oa on oc B) (hb:Below w.heap.size w w'):BrOwn w' base a n c fa fn fc ra rn rc oa on oc B :=
 ⟨zh h.ports hb,zh h.f hb,h.v.below hb⟩

theorem BrOwn.lt {w:World} {base base':Nat} {a:Option Addr} {n c:Nat} {fa:Option Addr} {fn fc:Nat} {ra:Option Addr} {rn rc:Nat} {oa:Option Addr} {on oc:Nat} {B:BR} (h:BrOwn w base a n c fa fn fc ra rn rc oa on oc B) (hle:base'≤base):BrOwn w base' a n c fa fn fc ra rn rc oa on oc B :=
 ⟨zH h.ports hle,zH h.f hle,h.v.lt hle⟩

theorem BrOwn.boxed {w:World} {base:Nat} {a:Option Addr} {n c:Nat} {fa:Option Addr} {fn fc:Nat} {ra:Option Addr} {rn rc:Nat} {oa:Option Addr} {on oc:Nat} {B:BR} (h:BrOwn w base a n c fa fn fc ra rn rc oa on oc B) {X:Nat} {cs:Array Value} (hX:w.heap[X]? = some (.cells cs 44)) (j:Nat) (u:Value):BrOwn (w.setCell ⟨X,j,none⟩ u) base a n c fa fn fc ra rn rc oa on oc B :=
 ⟨zt h.ports (zj (rb:=X) j u) (zA h.ports hX (by decide)),zt h.f (zj (rb:=X) j u) (zA h.f hX (by decide)),
  ⟨zt h.v.rows (zj (rb:=X) j u) (zA h.v.rows hX (by decide)),zt h.v.own (zj (rb:=X) j u) (zA h.v.own hX (by decide)),h.v.i64⟩⟩

theorem BrOwn.newPorts {w w':World} {base:Nat} {a:Option Addr} {n c:Nat} {fa:Option Addr} {fn fc:Nat} {ra:Option Addr} {rn rc:Nat} {oa:Option Addr} {on oc:Nat} {B:BR} (h:BrOwn w base a n c fa fn fc ra rn rc oa on oc B) (hg:w.grownBy w' (Value.slice a n c).ownBlock) {a':Option Addr} {n' c':Nat} {l:List PT} (hp:w'.ownsRow base 53 8 (.slice a' n' c') n' (ptF.all l)) :
  BrOwn w' base a' n' c' fa fn fc ra rn rc oa on oc { B with ports:=l } :=
 ⟨hp,zD h.f h.ports (by decide) hg,⟨zD h.v.rows h.ports (by decide) hg,zD h.v.own h.ports (by decide) hg,h.v.i64⟩⟩

theorem BrOwn.putF {w w':World} {base:Nat} {a:Option Addr} {n c:Nat} {fa:Option Addr} {fn fc:Nat} {ra:Option Addr} {rn rc:Nat} {oa:Option Addr} {on oc:Nat} {B:BR} (h:BrOwn w base a n c fa fn fc ra rn rc oa on oc B) (hb:Below w.heap.size w w') {fa':Option Addr} {fn' fc':Nat} {l:List FE} (hp:w'.ownsRow base 145 5 (.slice fa' fn' fc') fn' (fentF.all l)):BrOwn w' base a n c fa' fn' fc' ra rn rc oa on oc { B with f:=l } :=
 ⟨(h.below hb).ports,hp,(h.below hb).v⟩

theorem box11 {w:World} {g:Nat} {cs:Array Value} {T:TypeId} (h:w.heap[g]? = some (.cells cs T)) (j:Nat) (u:Value):(w.setCell ⟨g,j,none⟩ u).heap[g]? = some (.cells (cs.setIfInBounds j u) T):=zB (j:=j) h u

def zdb (ports:Int):VT:=if (decide (1≤ports) && decide (ports≤6))=true then ⟨[⟨1,allOf ports.toNat,allOf ports.toNat⟩],List.replicate ports.toNat 1⟩ else ⟨[],[]⟩

theorem zkq {ports:Int} (h:(decide (1≤ports) && decide (ports≤6))=false):zdb ports=⟨[],[]⟩:=by
 unfold zdb;rw [h,if_neg Bool.false_ne_true]
theorem ziZ {p:Nat} (h:(decide (1≤(p:Int)) && decide ((p:Int)≤6))=true):zdb p=⟨[⟨1,allOf p,allOf p⟩],List.replicate p 1⟩:=by
 unfold zdb;rw [if_pos h,Int.toNat_natCast]

theorem zmg (k:Nat):I64s (List.replicate k 1):=by
 intro z hz;rw [List.eq_of_mem_replicate hz];exact ⟨by decide,by decide⟩

theorem zc7 {α:Type} (F:Flat α) {w:World} {g base:Nat} {x:α} {cs:Array Value} {T:TypeId} (h:w.heap[g]? = some (.cells cs T)) (hc:cs.toList=F.cs x) (hb:base≤g):w.ownsRow base T F.k (.slice (some ⟨g,0,none⟩) 1 1) 1 (F.all [x]):=by
 have hl:cs.toList.length=F.k:=by rw [hc,F.len]
 refine ⟨by rw [F.all_length]; rfl,.inr ⟨g,1,cs,rfl,hb,h,Nat.le_refl _,by unfold maxLen; omega, ?_, ?_⟩⟩
 ·have:=hl
  simp at this
  rw [this,Nat.one_mul]
 ·rw [F.all_one,Nat.one_mul,← hc,← hl,List.take_length]

theorem zjH (w:World) (base:Nat):VOwn w base none 0 0 none 0 0 ⟨[],[]⟩:=⟨World.ownsRow_nil _ _ _ _,World.ownsRow_nil _ _ _ _,(by intro z hz; cases hz)⟩

theorem zeT (ports:Int) (w:World) :
  Calls Tryz.prog 97 #[.int .i64 ports] w fun e w'=>∃a n c o p q,e=.returned (.agg #[.slice a n c,.slice o p q])∧VOwn w' w.heap.size a n c o p q (zdb ports)∧Below w.heap.size w w':=by
 generalize hw1:w.alloc (Obj.cells #[Value.slice none 0 0,Value.slice none 0 0] 42)=w1;have b01:=zb hw1;have k0:=zk hw1;have z1:Hid (w.heap.size < w1.heap.size):=hide (by rw [← hw1]; simp);cases hin:(decide (1≤ports) && decide (ports≤6))
 ·rw [zkq hin];have HIN:=hide hin;clear hin;obtain ⟨⟨g0,g1⟩,f0,f1⟩:=zaC k0;have HB:=hide (zr (zr b01 (Nat.le_refl _) 0 (.slice none 0 0)) (Nat.le_refl _) 1 (.slice none 0 0));go_enter Tryz.func97,Tryz.ntmps97;go_wp2_with (refine (zg ports 1 6 _).mono ?_; rintro r w2 ⟨rfl,e2⟩; obtain rfl:=e2.symm; rw [HIN.out])
  exact bodyPost_ret (v:=.agg #[.slice none 0 0,.slice none 0 0]) (by simp [results,Tryz.results97,go_sem, *]) rfl ⟨_,_,_,_,_,_,rfl,zjH _ _,HB.out⟩
 ·obtain ⟨p,rfl⟩:∃p:Nat,ports=(p:Int):=⟨ports.toNat,by simp at hin; omega⟩;rw [ziZ hin];have HIN:=hide hin;have hp:1≤(p:Int)∧(p:Int)≤6:=by simpa using hin
  clear hin;generalize hw2:w1.alloc (Obj.cells #[Value.int .i64 1,Value.int .i64 (allOf p),Value.int .i64 (allOf p)] 167)=w2;have b12:=zb hw2;have k1:=zk hw2;generalize hwz:w2.alloc (Obj.cells #[Value.slice none 0 0,Value.slice none 0 0] 42)=wz;have b2z:=zb hwz;have kz:=zk hwz;obtain ⟨⟨j0,j1⟩,j2,j3⟩:=zaC kz;generalize hw3:(wz.setCell ⟨w2.heap.size,0,none⟩ (Value.slice (some ⟨w1.heap.size,0,none⟩) 1 1)).setCell ⟨w2.heap.size,1,none⟩ (Value.slice none 0 0)=w3;have b23:Below w2.heap.size w2 w3:=by subst hw3; exact zr (zr b2z (Nat.le_refl _) _ _) (Nat.le_refl _) _ _
  have k2:w3.heap[w2.heap.size]? = some (.cells #[.slice (some ⟨w1.heap.size,0,none⟩) 1 1,.slice none 0 0] 42):=by
   have h1:=zB (j:=0) kz (Value.slice (some ⟨w1.heap.size,0,none⟩) 1 1);have h2:=zB (j:=1) h1 (Value.slice none 0 0);rw [hw3] at h2;exact h2
  have hR:w3.ownsRow w1.heap.size 167 3 (.slice (some ⟨w1.heap.size,0,none⟩) 1 1) 1 (vrowF.all [⟨1,allOf p,allOf p⟩]):=zh (zc7 vrowF (x:=⟨1,allOf p,allOf p⟩) k1 rfl (Nat.le_refl _)) b23;have b13:=zc b12 b23;have hall:=zlA p hp.1 hp.2;have X2:Hid (w1.heap.size≤w2.heap.size):=hide b12.size;have hwp:IntKind.u64.wrap (p:Int)=(p:Int):=by rw [IntKind.wrap_u64]; omega
  go_enter Tryz.func97,Tryz.ntmps97;go_wp2_with (refine (zg (p:Int) 1 6 _).mono ?_; rintro r wy ⟨rfl,ey⟩; obtain rfl:=ey.symm; rw [HIN.out])
  go_wp2;rw [hall];clear j0 j1 j2 j3
  go_loopw [5] (fun i wr=>∃(k:Nat) (o:Option Addr) (q:Nat),k≤p∧i=.int .i64 k∧wr.heap[w2.heap.size]? = some (.cells #[.slice (some ⟨w1.heap.size,0,none⟩) 1 1,.slice o k q] 42)∧wr.ownsRow w1.heap.size 167 3 (.slice (some ⟨w1.heap.size,0,none⟩) 1 1) 1 (vrowF.all [⟨1,allOf p,allOf p⟩])∧wr.ownsRow w1.heap.size 3 1 (.slice o k q) k (intF.all (List.replicate k 1))∧Below w1.heap.size w1 wr) (fun i _=>p - (intOf i).toNat)
  case atStart=>exact ⟨0,none,0,Nat.zero_le _,rfl,k2,hR,World.ownsRow_nil _ _ _ _,b13⟩
  case round =>
   obtain ⟨k,o,q,hk,rfl,kX,hRr,hI,hb⟩:=hrel;by_cases hlt:k < p
   ·obtain ⟨⟨x0,x1⟩,-⟩:=zaC kX;generalize hwa:wr.alloc (Obj.cells #[Value.int .i64 1] 3)=wa;have bra:=zb hwa;have ka:=zk hwa;have gone:GRow intF wa (some ⟨wr.heap.size,0,none⟩) 1 1 [1]:=zC (F:=intF) (zc7 intF (x:=1) (base:=0) ka rfl (Nat.zero_le _));have hba:=zc hb bra;have HR2:=hide (zh hRr bra);have hI2:=zh hI bra;have HI0:=hide hI2;have HKX:=hide (za kX bra);have HBA:=hide hba;clear hRr hI kX hb hba k2 hR;go_wp2_with (at_builtin; refine zK (F:=intF) _ rfl _ _ 35 3 rfl w1.heap.size Tryz.underlying35 Tryz.infoI64 rfl (by decide) _ k (List.replicate k 1) rfl hI2 (some ⟨wr.heap.size,0,none⟩) 1 1 [1] rfl gone (by omega) HBA.out.size ?_)
    intro a7 c7 w7 how hr hgr hb7;have hown2:=zD HR2.out HI0.out (by decide) hgr;have kX7:=ze HKX.out hgr (fun j hj=>zA HI0.out HKX.out (by decide) j hj);obtain ⟨⟨y0,y1⟩,f0,f1⟩:=zaC kX7;have HO:Hid ((w7.setCell ⟨w2.heap.size,1,none⟩ (.slice a7 (k+1) c7)).ownsRow w1.heap.size 3 1 (.slice a7 (k+1) c7) (k+1) (intF.all (List.replicate (k+1) 1))):=hide (by
     rw [List.replicate_succ'];exact zt how (zj (rb:=w2.heap.size) 1 _) (zA how kX7 (by decide)))
    have HR3:=hide (zt hown2 (zj (rb:=w2.heap.size) 1 (.slice a7 (k+1) c7)) (zA hown2 kX7 (by decide)));have HK3:Hid ((w7.setCell ⟨w2.heap.size,1,none⟩ (.slice a7 (k+1) c7)).heap[w2.heap.size]? = some (.cells #[.slice (some ⟨w1.heap.size,0,none⟩) 1 1,.slice a7 (k+1) c7] 42)):=hide (zki kX7 _);have HB3:=hide (zr (HBA.out.trans hb7) X2.out 1 (.slice a7 (k+1) c7));clear how hr hgr hb7 hown2 hI2 x0 x1 gone ka;go_wp2
    go_roundw
    case rel=>exact ⟨k+1,a7,c7,by omega,by go_num,HK3.out,HR3.out,HO.out,HB3.out⟩
    case measure=>simp [intOf]; omega
   ·have hkp:k=p:=by omega
    subst hkp;obtain ⟨⟨x0,x1⟩,-⟩:=zaC kX;obtain ⟨⟨g0,g1⟩,f0,f1⟩:=zaC (za k0 hb);have hV:VOwn wr w1.heap.size (some ⟨w1.heap.size,0,none⟩) 1 1 o k q ⟨[⟨1,allOf k,allOf k⟩],List.replicate k 1⟩:=⟨hRr,(by rw [← zbw]; exact hI),zmg _⟩;have HO:=hide ((hV.set2 (g:=w.heap.size) z1.out (.slice (some ⟨w1.heap.size,0,none⟩) 1 1) (.slice o k q)).lt (base':=w.heap.size) b01.size);have HB:=hide (zr (zr (zc b01 hb) (Nat.le_refl _) 0 (.slice (some ⟨w1.heap.size,0,none⟩) 1 1)) (Nat.le_refl _) 1 (.slice o k q));clear hV hRr hI hb k2 hR;go_wp2;exact bodyPost_ret (v:=.agg #[.slice (some ⟨w1.heap.size,0,none⟩) 1 1,.slice o k q]) (by simp [results,Tryz.results97,go_sem, *]) rfl ⟨_,_,_,_,_,_,rfl,HO.out,HB.out⟩

theorem zlT:(Tryz.prog.info? 145).map (fun i=>(i.zero,i.size,i.bytes))=some (some (.agg #[.int .i64 0,.int .i64 0,.int .i64 0,.int .i64 0,.bool false]),fentF.k,40):=by kernel_rfl

theorem zbj (w:World) {ops:Array Oper} {rest:List Oper} {o:Oper} {a:Act} {Q:Exit→Act→World→Prop} (hgd:o.guard=none)
  (s x:Operand) (ho:o.op=Op.call { callee:=Callee.builtin Builtin.append,args:=#[s,x],argTypes:=#[39,39] }) (base:Nat)
  (v:Value) (n:Nat) (xs:List FE) (hs:a.eval s=v) (hown:w.ownsRow base 145 5 v n (fentF.all xs)) (ao:Option Addr) (m c:Nat) (zs:List FE)
  (hx:a.eval x=.slice ao m c) (hrow:GRow fentF w ao m c zs) (hsm:n+m≤137438953472) (hbase:base≤w.heap.size)
  (h:∀ao' cap' w',w'.ownsRow base 145 5 (.slice ao' (n+m) cap') (n+m) (fentF.all (xs++zs))→GRow fentF w' ao' (n+m) cap' (xs++zs)→w.grownBy w' v.ownBlock→Below base w w'→wpList Tryz.prog ops Q rest (a.put o.dst (.slice ao' (n+m) cap')) w') :
  wpList Tryz.prog ops Q (o::rest) a w :=
 zK (F:=fentF) w hgd s x 39 145 ho base Tryz.underlying39 zlT rfl (by decide) v n xs hs hown ao m c zs hx hrow hsm hbase h

theorem zg6 (ao:Option Addr) (n cap:Nat) (l:List FE) (w:World) (h:GRow fentF w ao n cap l) (hn:n≤16777216) :
  Calls Tryz.prog 132 #[.slice ao n cap] w fun r w'=>∃ao' cap',r=.returned (.slice ao' n cap')∧w'.ownsRow w.heap.size 145 5 (.slice ao' n cap') n (fentF.all l)∧GRow fentF w' ao' n cap' l∧Below w.heap.size w w':=by
 go_enter Tryz.func132,Tryz.ntmps132;go_wp2_with (at_builtin; refine zbj _ rfl _ _ rfl w.heap.size _ 0 [] rfl (zaG fentF w _ 145 w.heap.size (zy w _) (Nat.le_refl _)) ao n cap l rfl (h.below (zl _ _)) (by omega) (by simp) ?_)
 intro ao' cap' w' how hr hgr hb;have how:w'.ownsRow w.heap.size 145 5 (.slice ao' n cap') n (fentF.all l):=by simpa using how
 have hr:GRow fentF w' ao' n cap' l:=by simpa using hr
 have HO:=hide how;have HB:=hide ((zl w _).trans hb);clear how hgr hb;go_wp2;go_ret;exact ⟨ao',cap',(by simp),HO.out,hr,HB.out⟩

theorem zjd {l:List FE} {k:Nat} {x:FE} (h:l[k]? = some x):l.drop k=x::l.drop (k+1):=by
 have hk:=(List.getElem?_eq_some_iff.1 h).1;rw [List.drop_eq_getElem_cons hk];rw [List.getElem?_eq_getElem hk] at h;cases h
 rfl

theorem zjf {α:Type} (F:Flat α) (w:World) (o:Obj) (x:α) (cs:Array Value) (T:TypeId) (h:cs.toList=F.cs x):GRow F ((w.alloc o).alloc (.cells cs T)) (some ⟨w.heap.size+1,0,none⟩) 1 1 [x]:=by
 have:=zb8 F (w.alloc o) x cs T h
 rw [show (w.alloc o).heap.size=w.heap.size+1 by simp] at this;exact this

theorem zlH {x:FE} {zs r:List FE} (h:x.s=true):zs++[x]++ageF r=zs++ageF (x::r):=by
 have:ageF (x::r)=x::ageF r:=by unfold ageF; rw [List.filterMap_cons]; unfold ageE; rw [h]; rfl
 rw [this]; simp
theorem zmF {x:FE} {zs r:List FE} (h:x.s=false) (ha:x.a < 4):zs++[(⟨x.t,x.m,x.p,x.a+1,x.s⟩:FE)]++ageF r=zs++ageF (x::r):=by
 have:ageF (x::r)=⟨x.t,x.m,x.p,x.a+1,x.s⟩::ageF r:=by unfold ageF; rw [List.filterMap_cons]; unfold ageE; simp [h,ha]
 rw [this]; simp
theorem zni {x:FE} {zs r:List FE} (h:x.s=false) (ha:¬x.a < 4):zs++ageF r=zs++ageF (x::r):=by
 have:ageF (x::r)=ageF r:=by unfold ageF; rw [List.filterMap_cons]; unfold ageE; simp [h,ha]
 rw [this]

theorem ziU (ao:Option Addr) (n cap:Nat) (l:List FE) (w:World) (h:GRow fentF w ao n cap l) (hn:n≤16777216) (hR:∀x∈l,x.Rng) :
  Calls Tryz.prog 106 #[.slice ao n cap] w fun r w'=>∃ao' cap',r=.returned (.slice ao' (ageF l).length cap')∧w'.ownsRow w.heap.size 145 5 (.slice ao' (ageF l).length cap') (ageF l).length (fentF.all (ageF l))∧GRow fentF w' ao' (ageF l).length cap' (ageF l)∧Below w.heap.size w w':=by
 have hle:=h.le;have htop:=h.top;unfold maxLen at htop;have hsz:=h.size;have o0:=zaG fentF w _ 145 _ (zy w (.cells #[] 145)) (Nat.le_refl _);have b0:=zl w (.cells #[] 145);go_enter Tryz.func106,Tryz.ntmps106;go_wp2
 go_loopw [3,4] (fun o i wr=>∃(k:Nat) (zs:List FE) (az:Option Addr) (cz nz:Nat),k≤n∧i=.int .i64 k∧o=.slice az nz cz∧zs.length=nz∧nz≤k∧wr.ownsRow w.heap.size 145 5 (.slice az nz cz) nz (fentF.all zs)∧zs++ageF (l.drop k)=ageF l∧Below w.heap.size w wr) (fun _ i _=>n - (intOf i).toNat)
 case atStart=>exact ⟨0,[],_,_,0,Nat.zero_le _,rfl,rfl,rfl,Nat.zero_le _,o0,by simp,b0⟩
 case round =>
  obtain ⟨k,zs,az,cz,nz,hk,rfl,rfl,hzs,hnz,how,hz,hb⟩:=hrel;clear o0 b0;have hws:=hb.size;by_cases hlt:k < n
  ·obtain ⟨x,b,off,hx,rfl,a0,a1,a2,a3,a4⟩:=zeu (h.below hb) k hlt;have hdr:=zjd hx;rw [hdr] at hz;cases hs:x.s
   ·rw [hs] at a4;by_cases ha:x.a < 4
    ·obtain ⟨-,-,-,r1,r2⟩:=hR x (List.mem_of_getElem? hx);have hw:IntKind.i64.wrap (x.a+1)=x.a+1:=zhh _ (by omega);have hcs:(#[.int .i64 x.t,.int .i64 x.m,.int .i64 x.p,.int .i64 (x.a+1),.bool false]:Array Value).toList=fentF.cs ((⟨x.t,x.m,x.p,x.a+1,x.s⟩:FE)):=by simp [fentF, *]
     have HCS:=hide hcs;clear hcs;have hl1:(zs++[(⟨x.t,x.m,x.p,x.a+1,x.s⟩:FE)]).length=nz+1:=by simp [hzs]
     have HL:=hide hl1;have how1:=zh how (zab wr (.cells #[.int .i64 x.t,.int .i64 x.m,.int .i64 x.p,.int .i64 (x.a+1),.bool false] 145) (.cells #[.int .i64 x.t,.int .i64 x.m,.int .i64 x.p,.int .i64 (x.a+1),.bool false] 145));have HBR:=hide (zc hb (zab wr (.cells #[.int .i64 x.t,.int .i64 x.m,.int .i64 x.p,.int .i64 (x.a+1),.bool false] 145) (.cells #[.int .i64 x.t,.int .i64 x.m,.int .i64 x.p,.int .i64 (x.a+1),.bool false] 145)));have hbase9:w.heap.size≤((wr.alloc (.cells #[.int .i64 x.t,.int .i64 x.m,.int .i64 x.p,.int .i64 (x.a+1),.bool false] 145)).alloc (.cells #[.int .i64 x.t,.int .i64 x.m,.int .i64 x.p,.int .i64 (x.a+1),.bool false] 145)).heap.size:=by simp; omega
     have HQ:=hide (show zs++[(⟨x.t,x.m,x.p,x.a+1,x.s⟩:FE)]++ageF (l.drop (k+1))=ageF l from (zmF hs ha).trans hz);clear how hb hz hl1;(try clear hs);go_wp2_with (at_builtin; refine zbj _ rfl _ _ rfl w.heap.size _ nz zs rfl how1 _ 1 1 [(⟨x.t,x.m,x.p,x.a+1,x.s⟩:FE)] rfl (zjf fentF _ _ ((⟨x.t,x.m,x.p,x.a+1,x.s⟩:FE)) _ _ HCS.out) (by omega) hbase9 ?_)
     intro ao9 cap9 w9 how9 hr9 hgr9 hb9;have HB9:=hide (HBR.out.trans hb9);have HO:=hide how9;clear how9 hr9 hgr9 hb9 how1 HBR;go_wp2
     go_roundw
     case rel=>exact ⟨k+1,zs++[(⟨x.t,x.m,x.p,x.a+1,x.s⟩:FE)],ao9,cap9,nz+1,by omega,by go_num,rfl,HL.out,by omega,HO.out,HQ.out,HB9.out⟩
     case measure=>simp [intOf]; omega
    ·have ha2:(4:Int)≤x.a:=by omega
     have HO:=hide (zh how (zl wr (.cells #[.int .i64 x.t,.int .i64 x.m,.int .i64 x.p,.int .i64 x.a,.bool false] 145)));have HB9:=hide (zc hb (zl wr (.cells #[.int .i64 x.t,.int .i64 x.m,.int .i64 x.p,.int .i64 x.a,.bool false] 145)));have HQ:=hide (show zs++ageF (l.drop (k+1))=ageF l from (zni hs ha).trans hz);clear how hb hz;go_wp2
     go_roundw
     case rel=>exact ⟨k+1,zs,az,cz,nz,by omega,by go_num,rfl,hzs,by omega,HO.out,HQ.out,HB9.out⟩
     case measure=>simp [intOf]; omega
   ·rw [hs] at a4;have hcs:(#[.int .i64 x.t,.int .i64 x.m,.int .i64 x.p,.int .i64 x.a,.bool true]:Array Value).toList=fentF.cs (x):=by simp [fentF, *]
    have HCS:=hide hcs;clear hcs;have hl1:(zs++[x]).length=nz+1:=by simp [hzs]
    have HL:=hide hl1;have how1:=zh how (zab wr (.cells #[.int .i64 x.t,.int .i64 x.m,.int .i64 x.p,.int .i64 x.a,.bool true] 145) (.cells #[.int .i64 x.t,.int .i64 x.m,.int .i64 x.p,.int .i64 x.a,.bool true] 145));have HBR:=hide (zc hb (zab wr (.cells #[.int .i64 x.t,.int .i64 x.m,.int .i64 x.p,.int .i64 x.a,.bool true] 145) (.cells #[.int .i64 x.t,.int .i64 x.m,.int .i64 x.p,.int .i64 x.a,.bool true] 145)));have hbase9:w.heap.size≤((wr.alloc (.cells #[.int .i64 x.t,.int .i64 x.m,.int .i64 x.p,.int .i64 x.a,.bool true] 145)).alloc (.cells #[.int .i64 x.t,.int .i64 x.m,.int .i64 x.p,.int .i64 x.a,.bool true] 145)).heap.size:=by simp; omega
    have HQ:=hide (show zs++[x]++ageF (l.drop (k+1))=ageF l from (zlH hs).trans hz);clear how hb hz hl1;(try clear hs);go_wp2_with (at_builtin; refine zbj _ rfl _ _ rfl w.heap.size _ nz zs rfl how1 _ 1 1 [x] rfl (zjf fentF _ _ (x) _ _ HCS.out) (by omega) hbase9 ?_)
    intro ao9 cap9 w9 how9 hr9 hgr9 hb9;have HB9:=hide (HBR.out.trans hb9);have HO:=hide how9;clear how9 hr9 hgr9 hb9 how1 HBR;go_wp2
    go_roundw
    case rel=>exact ⟨k+1,zs++[x],ao9,cap9,nz+1,by omega,by go_num,rfl,HL.out,by omega,HO.out,HQ.out,HB9.out⟩
    case measure=>simp [intOf]; omega
  ·have hkn:k=n:=by omega
   subst hkn;rw [List.drop_eq_nil_of_le (by omega)] at hz;have hz:zs=ageF l:=by simpa [ageF] using hz
   have hl:nz=(ageF l).length:=by rw [← hz]; exact hzs.symm
   rw [hz] at how;subst hl;have HO:=hide how;have HR:=hide (zC how);have HB:=hide hb;clear how hb;go_wp2;go_ret;exact ⟨_,_,rfl,HO.out,HR.out,HB.out⟩

theorem zgk {x:FE} {p:Int} {zs r:List FE} (h:(x.s || (x.p != p))=true):zs++[x]++zX r p=zs++zX (x::r) p:=by
 have:zX (x::r) p=x::zX r p:=by unfold zX; rw [List.filter_cons,if_pos h]
 rw [this]; simp
theorem zlU {x:FE} {p:Int} {zs r:List FE} (h:(x.s || (x.p != p))=false):zs++zX r p=zs++zX (x::r) p:=by
 have:zX (x::r) p=zX r p:=by unfold zX; rw [List.filter_cons,if_neg (by rw [h]; exact Bool.false_ne_true)]
 rw [this]

theorem zg7 (ao:Option Addr) (n cap:Nat) (l:List FE) (p:Int) (w:World) (h:GRow fentF w ao n cap l) (hn:n≤16777216) :
  Calls Tryz.prog 136 #[.slice ao n cap,.int .i64 p] w fun r w'=>∃ao' cap',r=.returned (.slice ao' (zX l p).length cap')∧w'.ownsRow w.heap.size 145 5 (.slice ao' (zX l p).length cap') (zX l p).length (fentF.all (zX l p))∧GRow fentF w' ao' (zX l p).length cap' (zX l p)∧Below w.heap.size w w':=by
 have hle:=h.le;have htop:=h.top;unfold maxLen at htop;have hsz:=h.size;have o0:=zaG fentF w _ 145 _ (zy w (.cells #[] 145)) (Nat.le_refl _);have b0:=zl w (.cells #[] 145);go_enter Tryz.func136,Tryz.ntmps136;go_wp2
 go_loopw [5,6] (fun o i wr=>∃(k:Nat) (zs:List FE) (az:Option Addr) (cz nz:Nat),k≤n∧i=.int .i64 k∧o=.slice az nz cz∧zs.length=nz∧nz≤k∧wr.ownsRow w.heap.size 145 5 (.slice az nz cz) nz (fentF.all zs)∧zs++zX (l.drop k) p=zX l p∧Below w.heap.size w wr) (fun _ i _=>n - (intOf i).toNat)
 case atStart=>exact ⟨0,[],_,_,0,Nat.zero_le _,rfl,rfl,rfl,Nat.zero_le _,o0,by simp,b0⟩
 case round =>
  obtain ⟨k,zs,az,cz,nz,hk,rfl,rfl,hzs,hnz,how,hz,hb⟩:=hrel;clear o0 b0;have hws:=hb.size;by_cases hlt:k < n
  ·obtain ⟨x,b,off,hx,rfl,a0,a1,a2,a3,a4⟩:=zeu (h.below hb) k hlt;have hdr:=zjd hx;rw [hdr] at hz;cases hs:x.s
   ·rw [hs] at a4;cases hp:(x.p != p)
    ·have hq:(x.s || (x.p != p))=false:=by rw [hs,hp]; rfl
     have HO:=hide how;have HB9:=hide hb;have HQ:=hide (show zs++zX (l.drop (k+1)) p=zX l p from (zlU hq).trans hz);clear how hb hz;go_wp2
     go_roundw
     case rel=>exact ⟨k+1,zs,az,cz,nz,by omega,by go_num,rfl,hzs,by omega,HO.out,HQ.out,HB9.out⟩
     case measure=>simp [intOf]; omega
    ·have hq:(x.s || (x.p != p))=true:=by rw [hs,hp]; rfl
     have hcs:(#[.int .i64 x.t,.int .i64 x.m,.int .i64 x.p,.int .i64 x.a,.bool false]:Array Value).toList=fentF.cs (x):=by simp [fentF, *]
     have HCS:=hide hcs;clear hcs;have hl1:(zs++[x]).length=nz+1:=by simp [hzs]
     have HL:=hide hl1;have how1:=zh how (zl wr (.cells #[.int .i64 x.t,.int .i64 x.m,.int .i64 x.p,.int .i64 x.a,.bool false] 145));have HBR:=hide (zc hb (zl wr (.cells #[.int .i64 x.t,.int .i64 x.m,.int .i64 x.p,.int .i64 x.a,.bool false] 145)));have hbase9:w.heap.size≤(wr.alloc (.cells #[.int .i64 x.t,.int .i64 x.m,.int .i64 x.p,.int .i64 x.a,.bool false] 145)).heap.size:=by simp; omega
     have HQ:=hide (show zs++[x]++zX (l.drop (k+1)) p=zX l p from (zgk hq).trans hz);clear how hb hz hl1;(try clear hs);go_wp2_with (at_builtin; refine zbj _ rfl _ _ rfl w.heap.size _ nz zs rfl how1 _ 1 1 [x] rfl (zb8 fentF _ (x) _ _ HCS.out) (by omega) hbase9 ?_)
     intro ao9 cap9 w9 how9 hr9 hgr9 hb9;have HB9:=hide (HBR.out.trans hb9);have HO:=hide how9;clear how9 hr9 hgr9 hb9 how1 HBR;go_wp2
     go_roundw
     case rel=>exact ⟨k+1,zs++[x],ao9,cap9,nz+1,by omega,by go_num,rfl,HL.out,by omega,HO.out,HQ.out,HB9.out⟩
     case measure=>simp [intOf]; omega
   ·rw [hs] at a4;have hq:(x.s || (x.p != p))=true:=by rw [hs]; rfl
    have hcs:(#[.int .i64 x.t,.int .i64 x.m,.int .i64 x.p,.int .i64 x.a,.bool true]:Array Value).toList=fentF.cs (x):=by simp [fentF, *]
    have HCS:=hide hcs;clear hcs;have hl1:(zs++[x]).length=nz+1:=by simp [hzs]
    have HL:=hide hl1;have how1:=zh how (zl wr (.cells #[.int .i64 x.t,.int .i64 x.m,.int .i64 x.p,.int .i64 x.a,.bool true] 145));have HBR:=hide (zc hb (zl wr (.cells #[.int .i64 x.t,.int .i64 x.m,.int .i64 x.p,.int .i64 x.a,.bool true] 145)));have hbase9:w.heap.size≤(wr.alloc (.cells #[.int .i64 x.t,.int .i64 x.m,.int .i64 x.p,.int .i64 x.a,.bool true] 145)).heap.size:=by simp; omega
    have HQ:=hide (show zs++[x]++zX (l.drop (k+1)) p=zX l p from (zgk hq).trans hz);clear how hb hz hl1;(try clear hs);go_wp2_with (at_builtin; refine zbj _ rfl _ _ rfl w.heap.size _ nz zs rfl how1 _ 1 1 [x] rfl (zb8 fentF _ (x) _ _ HCS.out) (by omega) hbase9 ?_)
    intro ao9 cap9 w9 how9 hr9 hgr9 hb9;have HB9:=hide (HBR.out.trans hb9);have HO:=hide how9;clear how9 hr9 hgr9 hb9 how1 HBR;go_wp2
    go_roundw
    case rel=>exact ⟨k+1,zs++[x],ao9,cap9,nz+1,by omega,by go_num,rfl,HL.out,by omega,HO.out,HQ.out,HB9.out⟩
    case measure=>simp [intOf]; omega
  ·have hkn:k=n:=by omega
   subst hkn;rw [List.drop_eq_nil_of_le (by omega)] at hz;have hz:zs=zX l p:=by simpa [zX] using hz
   have hl:nz=(zX l p).length:=by rw [← hz]; exact hzs.symm
   rw [hz] at how;subst hl;have HO:=hide how;have HR:=hide (zC how);have HB:=hide hb;clear how hb;go_wp2;go_ret;exact ⟨_,_,rfl,HO.out,HR.out,HB.out⟩

theorem zgl {a c:World} {row:Option Nat} (h:a.grownBy c row):a.grownBy c.drew row:=⟨h.os,h.tape,h.output,h.size,h.block⟩

theorem zd3 {w:World} {i:Nat} {o:Obj} (h:w.heap[i]? = some o):w.drew.heap[i]? = some o:=h

theorem zek {α:Type} {l:List α} {k:Nat} {x y:α} (hx:l[k]? = some x):∃pre post,l=pre++x::post∧k=pre.length∧pre++y::post=l.set k y:=by
 obtain ⟨hk,rfl⟩:=List.getElem?_eq_some_iff.1 hx;refine ⟨l.take k,l.drop (k+1), ?_, ?_, ?_⟩
 ·rw [← List.drop_eq_getElem_cons hk,List.take_append_drop]
 ·rw [List.length_take]; omega
 ·rw [List.set_eq_take_append_cons_drop,if_pos hk]

theorem zji {w:World} {base g n cap k:Nat} {l:List PT} {x:PT} (v:VD) (h:w.ownsRow base 53 8 (.slice (some ⟨g,0,none⟩) n cap) n (ptF.all (l))) (hx:l[k]? = some x) :
  ((((((w.setCell ⟨g,k*8+2,none⟩ (.bool true)).setCell ⟨g,k*8+3,none⟩ (.int .i64 v.r)).setCell ⟨g,k*8+4,none⟩ (.int .i64 v.c)).setCell ⟨g,k*8+5,none⟩ (.int .i64 v.h)).setCell ⟨g,k*8+6,none⟩ (.int .i64 v.b)).setCell ⟨g,k*8+7,none⟩ (.int .i64 v.p)).ownsRow base 53 8 (.slice (some ⟨g,0,none⟩) n cap) n (ptF.all (l.set k ⟨x.up,x.k,true,v⟩)):=by
 obtain ⟨pre,post,e0,rfl,e1⟩:=zek (y:=(⟨x.up,x.k,true,v⟩:PT)) hx;rw [e0] at h;have R0:=zS (F:=ptF) (x':=⟨x.up,x.k,true,⟨x.v.r,x.v.c,x.v.h,x.v.b,x.v.p⟩⟩) h 2 (.bool true) (by decide) rfl;have R1:=zS (F:=ptF) (x':=⟨x.up,x.k,true,⟨v.r,x.v.c,x.v.h,x.v.b,x.v.p⟩⟩) R0 3 (.int .i64 v.r) (by decide) rfl;have R2:=zS (F:=ptF) (x':=⟨x.up,x.k,true,⟨v.r,v.c,x.v.h,x.v.b,x.v.p⟩⟩) R1 4 (.int .i64 v.c) (by decide) rfl;have R3:=zS (F:=ptF) (x':=⟨x.up,x.k,true,⟨v.r,v.c,v.h,x.v.b,x.v.p⟩⟩) R2 5 (.int .i64 v.h) (by decide) rfl;have R4:=zS (F:=ptF) (x':=⟨x.up,x.k,true,⟨v.r,v.c,v.h,v.b,x.v.p⟩⟩) R3 6 (.int .i64 v.b) (by decide) rfl;have R5:=zS (F:=ptF) (x':=⟨x.up,x.k,true,⟨v.r,v.c,v.h,v.b,v.p⟩⟩) R4 7 (.int .i64 v.p) (by decide) rfl;rw [e1] at R5;exact R5

theorem zdu {w:World} {g k:Nat} (v:VD):w.grownBy ((((((w.setCell ⟨g,k*8+2,none⟩ (.bool true)).setCell ⟨g,k*8+3,none⟩ (.int .i64 v.r)).setCell ⟨g,k*8+4,none⟩ (.int .i64 v.c)).setCell ⟨g,k*8+5,none⟩ (.int .i64 v.h)).setCell ⟨g,k*8+6,none⟩ (.int .i64 v.b)).setCell ⟨g,k*8+7,none⟩ (.int .i64 v.p)) (some g) :=
 zI (zI (zI (zI (zI (zj _ _) (zj _ _)) (zj _ _)) (zj _ _)) (zj _ _)) (zj _ _)

theorem zl4 {w:World} {base g n cap k:Nat} {l:List PT} {x:PT} (up:Bool) (h:w.ownsRow base 53 8 (.slice (some ⟨g,0,none⟩) n cap) n (ptF.all (l))) (hx:l[k]? = some x) :
  ((((((((w.setCell ⟨g,k*8,none⟩ (.bool up)).setCell ⟨g,k*8+1,none⟩ (.int .i64 x.k)).setCell ⟨g,k*8+2,none⟩ (.bool false)).setCell ⟨g,k*8+3,none⟩ (.int .i64 0)).setCell ⟨g,k*8+4,none⟩ (.int .i64 0)).setCell ⟨g,k*8+5,none⟩ (.int .i64 0)).setCell ⟨g,k*8+6,none⟩ (.int .i64 0)).setCell ⟨g,k*8+7,none⟩ (.int .i64 0)).ownsRow base 53 8 (.slice (some ⟨g,0,none⟩) n cap) n (ptF.all (l.set k ⟨up,x.k,false,⟨0,0,0,0,0⟩⟩)):=by
 obtain ⟨pre,post,e0,rfl,e1⟩:=zek (y:=(⟨up,x.k,false,⟨0,0,0,0,0⟩⟩:PT)) hx;rw [e0] at h;have R:=znL (y:=⟨up,x.k,false,⟨0,0,0,0,0⟩⟩) h;rw [e1] at R;exact R

theorem zbP {w:World} {base k:Nat} {e:TypeId} {a:Option Addr} {n c:Nat} {ys:List Value} (h:w.ownsRow base e k (.slice a n c) n ys) (hn:0 < n):∃g,a=some ⟨g,0,none⟩:=by
 rcases h.2 with ⟨e1,h0⟩ | ⟨g,cap',cur,e1,-⟩
 ·cases e1;omega
 ·cases e1;exact ⟨g,rfl⟩

theorem zee {B:BR} (h:zu B=true):B.ports.length≤6∧0≤B.vers∧B.vers≤1000000∧0≤B.ticks∧B.ticks≤1000000:=by
 obtain ⟨-,-,-,h4,-,-,h7,-,-,-,h11⟩:=zU h;rw [zjk] at h7 h11;unfold in3 at h4
 simp at h4
 omega

theorem zhc {B:BR} {n:Nat} {port:Int} (hn:B.ports.length=n) (h:za4 B port=true):∃k:Nat,port=(k:Int)∧k < n∧∃x,B.ports[k]? = some x:=by
 unfold za4 at h;simp only [Bool.and_eq_true,decide_eq_true_eq] at h;obtain ⟨-,h0,h1⟩:=h;refine ⟨port.toNat,by omega,by omega,B.ports[port.toNat]'(by omega),List.getElem?_eq_getElem (by omega)⟩

theorem zlI (l:List FE):(ageF l).length≤l.length:=List.length_filterMap_le _ _

theorem zhl (ao:Option Addr) (n cap:Nat) (l:List FE) (w:World) (h:GRow fentF w ao n cap l) (hn:n≤16777216) :
  Calls Tryz.prog 81 #[.slice ao n cap] w fun r w'=>∃ao' cap',r=.returned (.slice ao' n cap')∧w'.ownsRow w.heap.size 145 5 (.slice ao' n cap') n (fentF.all l)∧GRow fentF w' ao' n cap' l∧Below w.heap.size w w':=by
 cases ao with
 | none =>
  have hc0:=h.nil rfl;have hn0:n=0:=by have:=h.le; omega
  subst hc0 hn0;have hl:l=[]:=List.eq_nil_of_length_eq_zero h.size;subst hl;have heq:∀W,(binOp .eql 39 (.slice none 0 0) (.slice none 0 0)).run Tryz.prog W=.ok (.bool true) W:=fun _=>by kernel_rfl
  go_enter Tryz.func81,Tryz.ntmps81;go_wp2;go_ret;exact ⟨none,0,rfl,World.ownsRow_nil _ _ _ _,zdh _ _,Below.refl _ _⟩
 | some a =>
  have heq:∀W,(binOp .eql 39 (.slice (some a) n cap) (.slice none 0 0)).run Tryz.prog W=.ok (.bool false) W:=fun _=>by kernel_rfl
  go_enter Tryz.func81,Tryz.ntmps81;go_wp2_with (at_builtin; refine zbj _ rfl _ _ rfl w.heap.size _ 0 [] rfl (zaG fentF w _ 145 w.heap.size (zy w _) (Nat.le_refl _)) (some a) n cap l rfl (h.below (zl _ _)) (by omega) (by simp) ?_)
  intro ao' cap' w' how hr hgr hb;have how:w'.ownsRow w.heap.size 145 5 (.slice ao' n cap') n (fentF.all l):=by simpa using how
  have hr:GRow fentF w' ao' n cap' l:=by simpa using hr
  have HO:=hide how;have HB:=hide ((zl w _).trans hb);clear how hgr hb;go_wp2;go_ret;exact ⟨ao',cap',(by simp),HO.out,hr,HB.out⟩

theorem zjP (ao:Option Addr) (n cap:Nat) (l:List Int) (w:World) (h:GRow intF w ao n cap l) (hn:n≤16777216) :
  Calls Tryz.prog 109 #[.slice ao n cap] w fun r w'=>∃ao' cap',r=.returned (.slice ao' n cap')∧w'.ownsRow w.heap.size 3 1 (.slice ao' n cap') n (intF.all l)∧Below w.heap.size w w':=by
 cases ao with
 | none =>
  have hc0:=h.nil rfl;have hn0:n=0:=by have:=h.le; omega
  subst hc0 hn0;have hl:l=[]:=List.eq_nil_of_length_eq_zero h.size;subst hl;have heq:∀W,(binOp .eql 35 (.slice none 0 0) (.slice none 0 0)).run Tryz.prog W=.ok (.bool true) W:=fun _=>by kernel_rfl
  go_enter Tryz.func109,Tryz.ntmps109;go_wp2;go_ret;exact ⟨none,0,rfl,World.ownsRow_nil _ _ _ _,Below.refl _ _⟩
 | some a =>
  have heq:∀W,(binOp .eql 35 (.slice (some a) n cap) (.slice none 0 0)).run Tryz.prog W=.ok (.bool false) W:=fun _=>by kernel_rfl
  go_enter Tryz.func109,Tryz.ntmps109;go_wp2_with (at_builtin; refine zK (F:=intF) _ rfl _ _ 35 3 rfl w.heap.size Tryz.underlying35 Tryz.infoI64 rfl (by decide) _ 0 [] rfl (zaG intF w _ 3 w.heap.size (zy w _) (Nat.le_refl _)) (some a) n cap l rfl (h.below (zl _ _)) (by omega) (by simp) ?_)
  intro ao' cap' w' how hr hgr hb;have how:w'.ownsRow w.heap.size 3 1 (.slice ao' n cap') n (intF.all l):=by
   (try simp only [Nat.zero_add,List.nil_append] at how);exact how
  have HO:=hide how;have HB:=hide ((zl w _).trans hb);clear how hgr hb hr;go_wp2;go_ret;exact ⟨ao',cap',(by simp),HO.out,HB.out⟩

end Go.Proofs.YtkaefmfopejbaaaGreat
