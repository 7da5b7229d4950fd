/-
  Packed: VtabCopy VtabOr VtabRowM BrOwn VtabNewS VtabHelp FdbPutS FdbRestS BrPorts FdbImplL0.
-/
import Derived.Test.YtpaneiaflfegoaaGreatPTKW
import Derived.Test.YtpaneiaflfegoaaGreatPTFdbOkS
import Derived.Test.YtpaneiaflfegoaaGreatPTK01
import Derived.Test.YtpaneiaflfegoaaGreatPTK02
import Derived.Test.YtpaneiaflfegoaaGreatPTK03
import Derived.Test.YtpaneiaflfegoaaGreatPTK04
import Derived.Test.YtpaneiaflfegoaaGreatPTVtabOkS
namespace Go.Proofs.YtpaneiaflfegoaaGreat
set_option maxRecDepth 100000
set_option maxHeartbeats 16000000
open Go.RowKit

abbrev q53:Oper:=⟨some 3,.buildSlice 59 0 #[],59,"l09_vlan.go:79",#[],none⟩
abbrev q54:Oper:=⟨some 6,.call ⟨.builtin .append,#[.tmp 3,.tmp 5],#[59,59]⟩,59,"l09_vlan.go:79",#[⟨0,.data⟩,⟨2,.data⟩],none⟩
abbrev q55:Oper:=⟨some 7,.buildSlice 60 0 #[],60,"l09_vlan.go:79",#[],none⟩
abbrev q56:Oper:=⟨some 10,.call ⟨.builtin .append,#[.tmp 7,.tmp 9],#[60,60]⟩,60,"l09_vlan.go:79",#[⟨4,.data⟩,⟨6,.data⟩,⟨3,.chain⟩],none⟩
abbrev q57:Oper:=⟨some 11,.build 62 #[(0,.tmp 6),(1,.tmp 10)],62,"l09_vlan.go:79",#[⟨3,.data⟩,⟨7,.data⟩],none⟩
abbrev q58:Oper:=⟨none,.store 62 (.tmp 2) (.tmp 11),0,"l09_vlan.go:79",#[⟨8,.data⟩,⟨7,.chain⟩,⟨0,.phase⟩,⟨1,.phase⟩,⟨2,.phase⟩,⟨3,.phase⟩,⟨4,.phase⟩,⟨5,.phase⟩,⟨6,.phase⟩,⟨7,.phase⟩,⟨8,.phase⟩],none⟩

def intF:Flat Int where
 k:=1
 cs:=fun x=>[.int .i64 x]
 len:=fun _=>rfl
 pos:=by decide
 one:=fun _ v hv=>by
  simp only [List.mem_cons,List.not_mem_nil,or_false] at hv;subst hv
  rfl

theorem zdd:∀(l:List Int),intF.all l=cI l
 | []=>rfl
 | x::l=>by
  have:=zdd l
  rw [Flat.all_cons,this]
  rfl

theorem IRow.flat {w:World} {ao:Option Addr} {n c:Nat} {l:List Int} (h:IRow w ao n c l):GRow intF w ao n c l where
 size:=h.size
 le:=h.le
 top:=h.top
 nil:=h.nil
 cell:=by
  rcases h.cell with h0 | ⟨b,off,ha,hc⟩
  ·exact .inl h0
  ·refine .inr ⟨b,off,ha,fun i x hi j v hv => ?_⟩;have hl:=(List.getElem?_eq_some_iff.1 hi).1;have hs:=h.size
   have:=hc i (by omega)
   rw [List.getD_eq_getElem?_getD,hi] at this
   match j,hv with
   | 0,hv =>
    cases hv
    show w.cell? ⟨b,off+i*1+0,none⟩=_
    rw [Nat.mul_one,Nat.add_zero];exact this
   | j+1,hv=>simp [intF] at hv

theorem zdZ:(Tryz.prog.info? 184).map (fun i=>(i.zero,i.size,i.bytes))=some (some (.agg #[.int .i64 0,.int .i64 0,.int .i64 0]),vrowF.k,24):=by kernel_rfl

theorem zu {w w':World} {base k:Nat} {e:TypeId} {v:Value} {n:Nat} {xs:List Value} (h:w.ownsRow base e k v n xs) {base2 k2:Nat} {e2:TypeId} {v2:Value} {n2:Nat} {xs2:List Value} (h2:w.ownsRow base2 e2 k2 v2 n2 xs2) (hne:(e:Nat)≠e2) (hg:w.grownBy w' v2.ownBlock):w'.ownsRow base e k v n xs:=by
 refine h.kept hg ?_;obtain ⟨-,h | ⟨g,cap,cur,e1,-,hh,-⟩⟩:=h
 ·rw [h.1]; exact .inl rfl
 ·obtain ⟨-,h2 | ⟨g2,cap2,cur2,e2',-,hh2,-⟩⟩:=h2
  ·rw [h2.1]; exact .inr (by rw [e1]; intro hc; cases hc)
  ·refine .inr (fun hc => ?_);rw [e1,e2'] at hc;have hgg:g=g2:=by simpa [Value.ownBlock] using hc
   subst hgg;rw [hh] at hh2;cases hh2;exact hne rfl

structure VOwn (w:World) (base:Nat) (a:Option Addr) (n c:Nat) (o:Option Addr) (p q:Nat) (v:VT):Prop where
 rows:w.ownsRow base 184 3 (.slice a n c) n (vrowF.all v.rows)
 own:w.ownsRow base 3 1 (.slice o p q) p (cI v.own)
 i64:I64s v.own

theorem VOwn.tab {w:World} {base:Nat} {a:Option Addr} {n c:Nat} {o:Option Addr} {p q:Nat} {v:VT} (h:VOwn w base a n c o p q v):VTab w a n c o p q v:=⟨zB (F:=vrowF) h.rows,ziq h.own h.i64⟩

theorem zeR (a:Option Addr) (n c:Nat) (o:Option Addr) (p q:Nat) (v:VT) (w:World) (h:VTab w a n c o p q v) (hn:n≤16777216) (hp:p≤16777216) :
  Calls Tryz.prog 95 #[.agg #[.slice a n c,.slice o p q]] w fun r w'=>∃a' c' o' q',r=.returned (.agg #[.slice a' n c',.slice o' p q'])∧VOwn w' w.heap.size a' n c' o' p q' v∧Below w.heap.size w w':=by
 generalize hw1:w.alloc (Obj.cells #[Value.slice a n c,Value.slice o p q] 62)=w1;generalize hw2:w1.alloc (Obj.cells #[Value.slice none 0 0,Value.slice none 0 0] 62)=w2;have s1:w1.heap.size=w.heap.size+1:=by subst hw1; simp
 have s2:w2.heap.size=w.heap.size+1+1:=by subst hw2; simp [s1]
 have hk1:=zk hw2;have b01:=zb hw1;have vb:Below w1.heap.size w1 w2.drew:=by subst hw2; exact zp (zl _ _)
 have bw:Below w.heap.size w w2:=by subst hw2; exact zc b01 (zl _ _)
 have vv:Below w2.heap.size w2 w2.drew:=zp (Below.refl _ _);have h12:w1.heap.size≤w2.heap.size:=by omega
 have S1:=hide s1;have S2:=hide s2;have H12:=hide h12;have HL:Hid (∀b,some w1.heap.size=some b→b < w2.heap.size):=hide (by intro b hb; cases hb; omega);clear s1 s2 h12;go_enter Tryz.func95,Tryz.ntmps95;go_wp2_with fail
 refine wp_region_held_drew (S:=(fun W=>W.cell? ⟨w.heap.size,0,none⟩=some (.slice a n c)∧W.cell? ⟨w.heap.size,1,none⟩=some (.slice o p q))) (by kernel_rfl) (zai hw1 vb) (fun hHeld => ?_);refine kK 1 ⟨some 4,.fieldAddr 62 (.tmp 1) 0,0,"l09_vlan.go:79",#[],none⟩ ?_;refine kK 2 ⟨some 5,.load 59 (.tmp 4),59,"l09_vlan.go:79",#[⟨1,.data⟩],none⟩ ?_;refine kK 5 ⟨some 8,.fieldAddr 62 (.tmp 1) 1,0,"l09_vlan.go:79",#[],none⟩ ?_;refine kK 6 ⟨some 9,.load 60 (.tmp 8),60,"l09_vlan.go:79",#[⟨5,.data⟩],none⟩ ?_;refine tR [0,4] ?_;refine AllReadyH.cons (o:=q53) rfl (fun K hK => ?_) ?_
 ·go_simp
  first
  | refine zx (K:=K _) (fun wx hk hbx => ?_)
  | refine zq (K:=K _) (fun wx hk hbx => ?_)
  (try have hI:=zi hI hbx);have hR:=zaO vrowF w2 wx 184 _ hk vv.size;have vv:=zc vv hbx;have vb:=zc vb hbx;clear hk hbx;refine hK.out _ _ (zai hw1 vb) (fun hHeld => ?_);clear hK K;(try simp only [Act.put,lA,lB,lC]);refine tR [3,4] ?_;refine AllReadyH.cons (o:=q54) rfl (fun K hK => ?_) ?_
  ·refine zj (F:=vrowF) rfl _ _ 59 184 rfl w2.heap.size Tryz.underlying59 zdZ rfl (by decide) _ 0 [] rfl hR a n c v.rows rfl (h.rows.below (zc bw vv)) (by omega) vv.size ?_;intro aohR cphR wx how hrow hgr hbx;(try have hI:=zu hI hR (by decide) hgr);have hR:=how;have vv:=vv.trans hbx;have vb:=vb.trans (hbx.mono H12.out);clear how hrow hgr hbx;simp only [Nat.zero_add,List.nil_append] at hR ⊢;refine hK.out _ _ (zai hw1 vb) (fun hHeld => ?_);clear hK K;(try simp only [Act.put,lA,lB,lC]);refine kR 4 q55 (fun K hK => ?_);go_simp
   first
   | refine zx (K:=K _) (fun wx hk hbx => ?_)
   | refine zq (K:=K _) (fun wx hk hbx => ?_)
   (try have hR:=zi hR hbx);have hI:=zaO intF w2 wx 3 _ hk vv.size;have vv:=zc vv hbx;have vb:=zc vb hbx;clear hk hbx;refine hK.out _ _ (zai hw1 vb) (fun hHeld => ?_);clear hK K;(try simp only [Act.put,lA,lB,lC]);refine kR 7 q56 (fun K hK => ?_);refine zj (F:=intF) rfl _ _ 60 3 rfl w2.heap.size Tryz.underlying60 Tryz.infoI64 rfl (by decide) _ 0 [] rfl hI o p q v.own rfl ((h.own.below (zc bw vv)).flat) (by omega) vv.size ?_;intro aohI cphI wx how hrow hgr hbx;(try have hR:=zu hR hI (by decide) hgr);have hI:=how;have vv:=vv.trans hbx;have vb:=vb.trans (hbx.mono H12.out);clear how hrow hgr hbx;simp only [Nat.zero_add,List.nil_append] at hI ⊢;refine hK.out _ _ (zai hw1 vb) (fun hHeld => ?_);clear hK K;(try simp only [Act.put,lA,lB,lC]);refine kK 8 q57 ?_;refine kR 9 q58 (fun K hK => ?_);obtain ⟨⟨g0,g1⟩,f0,f1⟩:=zau (za hk1 vv);go_simp;have hR:=zA (zA hR (zg (rb:=w1.heap.size) 0 (.slice aohR n cphR)) HL.out) (zg (rb:=w1.heap.size) 1 (.slice aohI p cphI)) HL.out;have hI:=zA (zA hI (zg (rb:=w1.heap.size) 0 (.slice aohR n cphR)) HL.out) (zg (rb:=w1.heap.size) 1 (.slice aohI p cphI)) HL.out;have vb:=zn (zn vb (Nat.le_refl _) 0 (.slice aohR n cphR)) (Nat.le_refl _) 1 (.slice aohI p cphI);refine hK.out _ _ (zai hw1 vb) (fun hHeld => ?_);clear hK K;(try simp only [Act.put,lA,lB,lC]);refine wpAnyH_done (by kernel_rfl) ?_ _;have HR:=hide hR;have HI:=hide hI;clear hR hI;go_wp2;refine bodyPost_ret (v:=.agg #[.slice aohR n cphR,.slice aohI p cphI]) (by simp [results,Tryz.results95,go_sem, *]) rfl ⟨_,_,_,_,rfl,⟨zD HR.out bw.size,zD (by rw [← zdd]; exact HI.out) bw.size,h.own.byte⟩,zc b01 vb⟩
  refine AllReadyH.cons (o:=q55) rfl (fun K hK => ?_) ?_
  ·go_simp
   first
   | refine zx (K:=K _) (fun wx hk hbx => ?_)
   | refine zq (K:=K _) (fun wx hk hbx => ?_)
   (try have hR:=zi hR hbx);have hI:=zaO intF w2 wx 3 _ hk vv.size;have vv:=zc vv hbx;have vb:=zc vb hbx;clear hk hbx;refine hK.out _ _ (zai hw1 vb) (fun hHeld => ?_);clear hK K;(try simp only [Act.put,lA,lB,lC]);refine kR 3 q54 (fun K hK => ?_);refine zj (F:=vrowF) rfl _ _ 59 184 rfl w2.heap.size Tryz.underlying59 zdZ rfl (by decide) _ 0 [] rfl hR a n c v.rows rfl (h.rows.below (zc bw vv)) (by omega) vv.size ?_;intro aohR cphR wx how hrow hgr hbx;(try have hI:=zu hI hR (by decide) hgr);have hR:=how;have vv:=vv.trans hbx;have vb:=vb.trans (hbx.mono H12.out);clear how hrow hgr hbx;simp only [Nat.zero_add,List.nil_append] at hR ⊢;refine hK.out _ _ (zai hw1 vb) (fun hHeld => ?_);clear hK K;(try simp only [Act.put,lA,lB,lC]);refine kR 7 q56 (fun K hK => ?_);refine zj (F:=intF) rfl _ _ 60 3 rfl w2.heap.size Tryz.underlying60 Tryz.infoI64 rfl (by decide) _ 0 [] rfl hI o p q v.own rfl ((h.own.below (zc bw vv)).flat) (by omega) vv.size ?_;intro aohI cphI wx how hrow hgr hbx;(try have hR:=zu hR hI (by decide) hgr);have hI:=how;have vv:=vv.trans hbx;have vb:=vb.trans (hbx.mono H12.out);clear how hrow hgr hbx;simp only [Nat.zero_add,List.nil_append] at hI ⊢;refine hK.out _ _ (zai hw1 vb) (fun hHeld => ?_);clear hK K;(try simp only [Act.put,lA,lB,lC]);refine kK 8 q57 ?_;refine kR 9 q58 (fun K hK => ?_);obtain ⟨⟨g0,g1⟩,f0,f1⟩:=zau (za hk1 vv);go_simp;have hR:=zA (zA hR (zg (rb:=w1.heap.size) 0 (.slice aohR n cphR)) HL.out) (zg (rb:=w1.heap.size) 1 (.slice aohI p cphI)) HL.out;have hI:=zA (zA hI (zg (rb:=w1.heap.size) 0 (.slice aohR n cphR)) HL.out) (zg (rb:=w1.heap.size) 1 (.slice aohI p cphI)) HL.out;have vb:=zn (zn vb (Nat.le_refl _) 0 (.slice aohR n cphR)) (Nat.le_refl _) 1 (.slice aohI p cphI);refine hK.out _ _ (zai hw1 vb) (fun hHeld => ?_);clear hK K;(try simp only [Act.put,lA,lB,lC]);refine wpAnyH_done (by kernel_rfl) ?_ _;have HR:=hide hR;have HI:=hide hI;clear hR hI;go_wp2;refine bodyPost_ret (v:=.agg #[.slice aohR n cphR,.slice aohI p cphI]) (by simp [results,Tryz.results95,go_sem, *]) rfl ⟨_,_,_,_,rfl,⟨zD HR.out bw.size,zD (by rw [← zdd]; exact HI.out) bw.size,h.own.byte⟩,zc b01 vb⟩
  exact AllReadyH.nil
 refine AllReadyH.cons (o:=q55) rfl (fun K hK => ?_) ?_
 ·go_simp
  first
  | refine zx (K:=K _) (fun wx hk hbx => ?_)
  | refine zq (K:=K _) (fun wx hk hbx => ?_)
  (try have hR:=zi hR hbx);have hI:=zaO intF w2 wx 3 _ hk vv.size;have vv:=zc vv hbx;have vb:=zc vb hbx;clear hk hbx;refine hK.out _ _ (zai hw1 vb) (fun hHeld => ?_);clear hK K;(try simp only [Act.put,lA,lB,lC]);refine kR 0 q53 (fun K hK => ?_);go_simp
  first
  | refine zx (K:=K _) (fun wx hk hbx => ?_)
  | refine zq (K:=K _) (fun wx hk hbx => ?_)
  (try have hI:=zi hI hbx);have hR:=zaO vrowF w2 wx 184 _ hk vv.size;have vv:=zc vv hbx;have vb:=zc vb hbx;clear hk hbx;refine hK.out _ _ (zai hw1 vb) (fun hHeld => ?_);clear hK K;(try simp only [Act.put,lA,lB,lC]);refine kR 3 q54 (fun K hK => ?_);refine zj (F:=vrowF) rfl _ _ 59 184 rfl w2.heap.size Tryz.underlying59 zdZ rfl (by decide) _ 0 [] rfl hR a n c v.rows rfl (h.rows.below (zc bw vv)) (by omega) vv.size ?_;intro aohR cphR wx how hrow hgr hbx;(try have hI:=zu hI hR (by decide) hgr);have hR:=how;have vv:=vv.trans hbx;have vb:=vb.trans (hbx.mono H12.out);clear how hrow hgr hbx;simp only [Nat.zero_add,List.nil_append] at hR ⊢;refine hK.out _ _ (zai hw1 vb) (fun hHeld => ?_);clear hK K;(try simp only [Act.put,lA,lB,lC]);refine kR 7 q56 (fun K hK => ?_);refine zj (F:=intF) rfl _ _ 60 3 rfl w2.heap.size Tryz.underlying60 Tryz.infoI64 rfl (by decide) _ 0 [] rfl hI o p q v.own rfl ((h.own.below (zc bw vv)).flat) (by omega) vv.size ?_;intro aohI cphI wx how hrow hgr hbx;(try have hR:=zu hR hI (by decide) hgr);have hI:=how;have vv:=vv.trans hbx;have vb:=vb.trans (hbx.mono H12.out);clear how hrow hgr hbx;simp only [Nat.zero_add,List.nil_append] at hI ⊢;refine hK.out _ _ (zai hw1 vb) (fun hHeld => ?_);clear hK K;(try simp only [Act.put,lA,lB,lC]);refine kK 8 q57 ?_;refine kR 9 q58 (fun K hK => ?_);obtain ⟨⟨g0,g1⟩,f0,f1⟩:=zau (za hk1 vv);go_simp;have hR:=zA (zA hR (zg (rb:=w1.heap.size) 0 (.slice aohR n cphR)) HL.out) (zg (rb:=w1.heap.size) 1 (.slice aohI p cphI)) HL.out;have hI:=zA (zA hI (zg (rb:=w1.heap.size) 0 (.slice aohR n cphR)) HL.out) (zg (rb:=w1.heap.size) 1 (.slice aohI p cphI)) HL.out;have vb:=zn (zn vb (Nat.le_refl _) 0 (.slice aohR n cphR)) (Nat.le_refl _) 1 (.slice aohI p cphI);refine hK.out _ _ (zai hw1 vb) (fun hHeld => ?_);clear hK K;(try simp only [Act.put,lA,lB,lC]);refine wpAnyH_done (by kernel_rfl) ?_ _;have HR:=hide hR;have HI:=hide hI;clear hR hI;go_wp2;refine bodyPost_ret (v:=.agg #[.slice aohR n cphR,.slice aohI p cphI]) (by simp [results,Tryz.results95,go_sem, *]) rfl ⟨_,_,_,_,rfl,⟨zD HR.out bw.size,zD (by rw [← zdd]; exact HI.out) bw.size,h.own.byte⟩,zc b01 vb⟩
 exact AllReadyH.nil

theorem VOwn.below {w w':World} {base:Nat} {a:Option Addr} {n c:Nat} {o:Option Addr} {p q:Nat} {v:VT} (h:VOwn w base a n c o p q v) (hb:Below w.heap.size w w'):VOwn w' base a n c o p q v :=
 ⟨zi h.rows hb,zi h.own hb,h.i64⟩

theorem VOwn.lt {w:World} {base base':Nat} {a:Option Addr} {n c:Nat} {o:Option Addr} {p q:Nat} {v:VT} (h:VOwn w base a n c o p q v) (hle:base'≤base):VOwn w base' a n c o p q v :=
 ⟨zD h.rows hle,zD h.own hle,h.i64⟩

theorem VOwn.set2 {w:World} {base:Nat} {a:Option Addr} {n c:Nat} {o:Option Addr} {p q:Nat} {v:VT} (h:VOwn w base a n c o p q v) {g:Nat} (hg:g < base) (u1 u2:Value):VOwn ((w.setCell ⟨g,0,none⟩ u1).setCell ⟨g,1,none⟩ u2) base a n c o p q v:=by
 have hl:∀b,some g=some b→b < base:=by intro b hb; cases hb; exact hg
 exact ⟨zA (zA h.rows (zg (rb:=g) 0 u1) hl) (zg (rb:=g) 1 u2) hl,zA (zA h.own (zg (rb:=g) 0 u1) hl) (zg (rb:=g) 1 u2) hl,h.i64⟩

theorem zy {w:World} {base k:Nat} {e:TypeId} {v:Value} {n:Nat} {xs:List Value} (h:w.ownsRow base e k v n xs) {X:Nat} {cs:Array Value} {T:TypeId} (hX:w.heap[X]?=some (.cells cs T)) (hne:(e:Nat)≠T):∀b,v.ownBlock=some b→b≠X:=by
 obtain ⟨-,h | ⟨g,cap,cur,rfl,-,hh,-⟩⟩:=h
 ·rw [h.1]; intro b hb; cases hb
 ·intro b hb e
  have:g=b:=by simpa [Value.ownBlock] using hb
  subst this e;rw [hh] at hX;cases hX;exact hne rfl

structure BrOwn (w:World) (base:Nat) (a:Option Addr) (n c:Nat) (fa:Option Addr) (fn fc:Nat) (ra:Option Addr) (rn rc:Nat) (oa:Option Addr) (on oc:Nat) (B:BR):Prop where
 ports:w.ownsRow base 103 8 (.slice a n c) n (ptF.all B.ports)
 f:w.ownsRow base 149 5 (.slice fa fn fc) fn (fentF.all B.f)
 v:VOwn w base ra rn rc oa on oc B.v

theorem BrOwn.row {w:World} {base:Nat} {a:Option Addr} {n c:Nat} {fa:Option Addr} {fn fc:Nat} {ra:Option Addr} {rn rc:Nat} {oa:Option Addr} {on oc:Nat} {B:BR} (h:BrOwn w base a n c fa fn fc ra rn rc oa on oc B):BrRow w a n c fa fn fc ra rn rc oa on oc B :=
 ⟨zB (F:=ptF) h.ports,zB (F:=fentF) h.f,h.v.tab⟩

theorem BrOwn.below {w w':World} {base:Nat} {a:Option Addr} {n c:Nat} {fa:Option Addr} {fn fc:Nat} {ra:Option Addr} {rn rc:Nat} {oa:Option Addr} {on oc:Nat} {B:BR} (h:BrOwn w base a n c fa fn fc ra rn rc oa on oc B) (hb:Below w.heap.size w w'):BrOwn w' base a n c fa fn fc ra rn rc oa on oc B :=
 ⟨zi h.ports hb,zi h.f hb,h.v.below hb⟩

theorem BrOwn.lt {w:World} {base base':Nat} {a:Option Addr} {n c:Nat} {fa:Option Addr} {fn fc:Nat} {ra:Option Addr} {rn rc:Nat} {oa:Option Addr} {on oc:Nat} {B:BR} (h:BrOwn w base a n c fa fn fc ra rn rc oa on oc B) (hle:base'≤base):BrOwn w base' a n c fa fn fc ra rn rc oa on oc B :=
 ⟨zD h.ports hle,zD h.f hle,h.v.lt hle⟩

theorem BrOwn.apart {w w':World} {base:Nat} {a:Option Addr} {n c:Nat} {fa:Option Addr} {fn fc:Nat} {ra:Option Addr} {rn rc:Nat} {oa:Option Addr} {on oc:Nat} {B:BR} (h:BrOwn w base a n c fa fn fc ra rn rc oa on oc B) {row:Option Nat} (hg:w.grownBy w' row) (hlt:∀b,row=some b→b < base):BrOwn w' base a n c fa fn fc ra rn rc oa on oc B :=
 ⟨zA h.ports hg hlt,zA h.f hg hlt,⟨zA h.v.rows hg hlt,zA h.v.own hg hlt,h.v.i64⟩⟩

theorem BrOwn.boxed {w:World} {base:Nat} {a:Option Addr} {n c:Nat} {fa:Option Addr} {fn fc:Nat} {ra:Option Addr} {rn rc:Nat} {oa:Option Addr} {on oc:Nat} {B:BR} (h:BrOwn w base a n c fa fn fc ra rn rc oa on oc B) {X:Nat} {cs:Array Value} (hX:w.heap[X]?=some (.cells cs 64)) (j:Nat) (u:Value):BrOwn (w.setCell ⟨X,j,none⟩ u) base a n c fa fn fc ra rn rc oa on oc B :=
 ⟨zw h.ports (zg (rb:=X) j u) (zy h.ports hX (by decide)),zw h.f (zg (rb:=X) j u) (zy h.f hX (by decide)),
  ⟨zw h.v.rows (zg (rb:=X) j u) (zy h.v.rows hX (by decide)),zw h.v.own (zg (rb:=X) j u) (zy h.v.own hX (by decide)),h.v.i64⟩⟩

theorem BrOwn.newPorts {w w':World} {base:Nat} {a:Option Addr} {n c:Nat} {fa:Option Addr} {fn fc:Nat} {ra:Option Addr} {rn rc:Nat} {oa:Option Addr} {on oc:Nat} {B:BR} (h:BrOwn w base a n c fa fn fc ra rn rc oa on oc B) (hg:w.grownBy w' (Value.slice a n c).ownBlock) {a':Option Addr} {n' c':Nat} {l:List PT} (hp:w'.ownsRow base 103 8 (.slice a' n' c') n' (ptF.all l)) :
  BrOwn w' base a' n' c' fa fn fc ra rn rc oa on oc { B with ports:=l } :=
 ⟨hp,zu h.f h.ports (by decide) hg,⟨zu h.v.rows h.ports (by decide) hg,zu h.v.own h.ports (by decide) hg,h.v.i64⟩⟩

theorem BrOwn.putF {w w':World} {base:Nat} {a:Option Addr} {n c:Nat} {fa:Option Addr} {fn fc:Nat} {ra:Option Addr} {rn rc:Nat} {oa:Option Addr} {on oc:Nat} {B:BR} (h:BrOwn w base a n c fa fn fc ra rn rc oa on oc B) (hb:Below w.heap.size w w') {fa':Option Addr} {fn' fc':Nat} {l:List FE} (hp:w'.ownsRow base 149 5 (.slice fa' fn' fc') fn' (fentF.all l)):BrOwn w' base a n c fa' fn' fc' ra rn rc oa on oc { B with f:=l } :=
 ⟨(h.below hb).ports,hp,(h.below hb).v⟩

theorem box11 {w:World} {g:Nat} {cs:Array Value} {T:TypeId} (h:w.heap[g]?=some (.cells cs T)) (j:Nat) (u:Value):(w.setCell ⟨g,j,none⟩ u).heap[g]?=some (.cells (cs.setIfInBounds j u) T):=zJ (j:=j) h u

theorem zlP {α:Type} (F:Flat α) {w:World} {g base:Nat} {x:α} {cs:Array Value} {T:TypeId} (h:w.heap[g]?=some (.cells cs T)) (hc:cs.toList=F.cs x) (hb:base≤g):w.ownsRow base T F.k (.slice (some ⟨g,0,none⟩) 1 1) 1 (F.all [x]):=by
 have hl:cs.toList.length=F.k:=by rw [hc,F.len]
 refine ⟨by rw [F.all_length]; rfl,.inr ⟨g,1,cs,rfl,hb,h,Nat.le_refl _,by unfold maxLen; omega, ?_, ?_⟩⟩
 ·have:=hl
  simp at this
  rw [this,Nat.one_mul]
 ·rw [F.all_one,Nat.one_mul,← hc,← hl,List.take_length]

theorem zh6 (a:Option Addr) (n c:Nat) (o:Option Addr) (p q:Nat) (v:VT) (w:World) (h:VTab w a n c o p q v) (hn:n≤1048576) (hp:p≤1048576) :
  Calls Tryz.prog 110 #[.agg #[.slice a n c,.slice o p q]] w fun e w'=>∃a' c' o' q',e=.returned (.agg #[.slice a' n c',.slice o' p q'])∧VOwn w' w.heap.size a' n c' o' p q' v∧Below w.heap.size w w':=by
 generalize hw1:w.alloc (Obj.cells #[Value.slice a n c,Value.slice o p q] 94)=w1;generalize hw2:w1.alloc (Obj.cells #[Value.slice none 0 0,Value.slice none 0 0] 62)=w2;generalize hw3:w2.alloc (Obj.cells #[Value.slice none 0 0,Value.slice none 0 0] 62)=w3;have b01:=zb hw1;have b12:=zb hw2;have b23:=zb hw3;have b02:=zc b01 b12;have b03:=zc b02 b23;have b13:=zc b12 b23;have k1:=zk hw2;have k2:=zk hw3;have z2:w1.heap.size < w2.heap.size:=by rw [← hw2]; simp
 have z3:w2.heap.size < w3.heap.size:=by rw [← hw3]; simp
 have Z2:=hide z2;have Z3:=hide z3;clear z2 z3;obtain ⟨x0,x1⟩:=zai hw1 b13;go_enter Tryz.func110,Tryz.ntmps110;go_wp2_with fail
 refine (zg1 a n c v.rows _ (h.rows.below b03) hn).mono ?_;rintro e w4 ⟨a4,c4,rfl,hR,-,hb4⟩;have k4:=za k2 hb4;obtain ⟨⟨g0,g1⟩,f0,f1⟩:=zau k4;generalize hw5:w4.setCell ⟨w2.heap.size,0,none⟩ (.slice a4 n c4)=w5;have b45:Below w2.heap.size w4 w5:=by subst hw5; exact zn (Below.refl _ _) (Nat.le_refl _) _ _
 have b25:Below w2.heap.size w2 w5:=(zc b23 hb4).trans b45;have b15:=zc b12 b25;have b05:=zc b02 b25;have hR5:w5.ownsRow w3.heap.size 184 3 (.slice a4 n c4) n (vrowF.all v.rows):=by
  rw [← hw5];exact zA hR (zg (rb:=w2.heap.size) 0 _) (by intro b hb; cases hb; exact Z3.out)
 have k5:w5.heap[w2.heap.size]?=some (.cells #[.slice a4 n c4,.slice none 0 0] 62):=by
  have:=zJ (j:=0) k4 (.slice a4 n c4)
  rw [hw5] at this;exact this
 have s35:Hid (w3.heap.size≤w5.heap.size):=hide (by have:=hb4.size; have:=b45.size; omega);obtain ⟨y0,y1⟩:=zai hw1 b15;clear hR x0 x1;go_wp2_with fail
 clear g0 g1 f0 f1;refine (ziW o p q v.own _ (h.own.below b05) (by omega)).mono ?_;rintro e w6 ⟨a6,c6,rfl,hI,-,hb6⟩;have k6:=za k5 hb6;obtain ⟨⟨g0,g1⟩,f0,f1⟩:=zau k6;generalize hw7:w6.setCell ⟨w2.heap.size,1,none⟩ (.slice a6 p c6)=w7;have b67:Below w2.heap.size w6 w7:=by subst hw7; exact zn (Below.refl _ _) (Nat.le_refl _) _ _
 have b27:Below w2.heap.size w2 w7:=(b25.trans (hb6.mono b25.size)).trans b67;have b07:=zc b02 b27;have hR7:w7.ownsRow w3.heap.size 184 3 (.slice a4 n c4) n (vrowF.all v.rows):=by
  rw [← hw7];exact zA (zi hR5 hb6) (zg (rb:=w2.heap.size) 1 _) (by intro b hb; cases hb; exact Z3.out)
 have hI7:w7.ownsRow w3.heap.size 3 1 (.slice a6 p c6) p (cI v.own):=by
  rw [← hw7];exact zA (zD hI s35.out) (zg (rb:=w2.heap.size) 1 _) (by intro b hb; cases hb; exact Z3.out)
 have k7:w7.heap[w2.heap.size]?=some (.cells #[.slice a4 n c4,.slice a6 p c6] 62):=by
  have:=zJ (j:=1) k6 (.slice a6 p c6)
  rw [hw7] at this;exact this
 have k71:=za k1 b27;clear hI hR5 y0 y1;obtain ⟨⟨u0,u1⟩,-⟩:=zau k7;obtain ⟨⟨t0,t1⟩,e0,e1⟩:=zau k71;have hV:VOwn w7 w3.heap.size a4 n c4 a6 p c6 v:=⟨hR7,hI7,h.own.byte⟩;have HO:=hide ((hV.set2 (g:=w1.heap.size) (Nat.lt_trans Z2.out Z3.out) (.slice a4 n c4) (.slice a6 p c6)).lt (base':=w.heap.size) b03.size);have HB:=hide (zn (zn b07 b01.size 0 (.slice a4 n c4)) b01.size 1 (.slice a6 p c6));clear hV hR7 hI7;go_wp2;exact bodyPost_ret (v:=.agg #[.slice a4 n c4,.slice a6 p c6]) (by simp [results,Tryz.results110,go_sem, *]) rfl ⟨_,_,_,_,rfl,HO.out,HB.out⟩

theorem zhj (a:Option Addr) (n c:Nat) (o:Option Addr) (p q:Nat) (a2:Option Addr) (n2 c2:Nat) (o2:Option Addr) (p2 q2:Nat) (v:VT) (w:World) (h:VTab w a n c o p q v) (h2:VTab w a2 n2 c2 o2 p2 q2 v) :
  Calls Tryz.prog 133 #[.agg #[.slice a n c,.slice o p q],.agg #[.slice a2 n2 c2,.slice o2 p2 q2]] w fun e w'=>e=.returned (.bool true)∧Below w.heap.size w w':=by
 generalize hw1:w.alloc (Obj.cells #[Value.slice a n c,Value.slice o p q] 62)=w1;generalize hw2:w1.alloc (Obj.cells #[Value.slice a2 n2 c2,Value.slice o2 p2 q2] 62)=w2;have b01:=zb hw1;have b12:=zb hw2;have b02:=zc b01 b12;obtain ⟨x0,x1⟩:=zai hw1 b12;obtain ⟨x2,x3⟩:=zai hw2 (Below.refl _ w2);go_enter Tryz.func133,Tryz.ntmps133;go_wp2_with fail
 refine (zgh a n c a2 n2 c2 v.rows _ (h.rows.below b02) (h2.rows.below b02)).mono ?_;rintro e w3 ⟨rfl,hb3⟩;obtain ⟨y0,y1⟩:=zai hw1 (zc b12 hb3);obtain ⟨y2,y3⟩:=zai hw2 hb3;have b03:=zc b02 hb3;clear x0 x1 x2 x3;go_wp2_with fail
 refine (zkT o p q o2 p2 q2 v.own _ (h.own.below b03) (h2.own.below b03)).mono ?_;rintro e w4 ⟨rfl,m,rfl⟩;have HB:=hide (zkY b03 m);clear y0 y1 y2 y3;go_wp2;go_ret;exact ⟨rfl,HB.out⟩

theorem zh0 (L:Int) (hL0:0≤L) (hL1:L≤1048576) (a:Option Addr) (n c:Nat) (o:Option Addr) (p q:Nat) (w:World) (hl:n≤maxLen) (hl2:p≤maxLen) :
  Calls Tryz.prog 93 #[.agg #[.slice a n c,.slice o p q],.int .i64 L] w fun e w'=>e=.returned (.int .i64 (if (n:Int)+(p:Int)≤L then L - n - p else -1))∧Below w.heap.size w w':=by
 generalize hw1:w.alloc (Obj.cells #[Value.slice a n c,Value.slice o p q] 94)=w1;have b01:=zb hw1;obtain ⟨x0,x1⟩:=zai hw1 (Below.refl _ w1);generalize hV:(if (n:Int)+(p:Int)≤L then L - n - p else -1)=V;have HV:=hide hV;clear hV;go_enter Tryz.func93,Tryz.ntmps93;go_wp2_with fail
 refine (zhZ a n c L _ hl (by omega) (by omega)).mono ?_;rintro e w2 ⟨rfl,e2⟩;obtain rfl:=e2.symm;by_cases h1:(n:Int)≤L
 ·rw [if_pos h1];have j1:¬(L - (n:Int) < 0):=by omega
  (go_wp2_with fail);refine (zhX o p q (L - n) _ hl2 (by omega) (by omega)).mono ?_;rintro e w2 ⟨rfl,e2⟩;obtain rfl:=e2.symm;by_cases h2:(p:Int)≤L - n
  ·rw [if_pos h2];have j2:¬(L - (n:Int) - (p:Int) < 0):=by omega
   have HE:Hid (V=L - n - p):=hide (by rw [← HV.out,if_pos (by omega)]);go_wp2;go_ret;exact ⟨(by rw [HE.out]; rfl),b01⟩
  ·rw [if_neg h2];have HE:Hid (V = -1):=hide (by rw [← HV.out,if_neg (by omega)]);go_wp2;go_ret;exact ⟨(by rw [HE.out]; rfl),b01⟩
 ·rw [if_neg h1];have HE:Hid (V = -1):=hide (by rw [← HV.out,if_neg (by omega)]);go_wp2;go_ret;exact ⟨(by rw [HE.out]; rfl),b01⟩

theorem zkU:(Tryz.prog.info? 149).map (fun i=>(i.zero,i.size,i.bytes))=some (some (.agg #[.int .i64 0,.int .i64 0,.int .i64 0,.int .i64 0,.bool false]),fentF.k,40):=by kernel_rfl

theorem zbf (w:World) {ops:Array Oper} {rest:List Oper} {o:Oper} {a:Act} {Q:Exit→Act→World→Prop} (hgd:o.guard=none)
  (s x:Operand) (ho:o.op=Op.call { callee:=Callee.builtin Builtin.append,args:=#[s,x],argTypes:=#[58,58] }) (base:Nat)
  (v:Value) (n:Nat) (xs:List FE) (hs:a.eval s=v) (hown:w.ownsRow base 149 5 v n (fentF.all xs)) (ao:Option Addr) (m c:Nat) (zs:List FE)
  (hx:a.eval x=.slice ao m c) (hrow:GRow fentF w ao m c zs) (hsm:n+m≤137438953472) (hbase:base≤w.heap.size)
  (h:∀ao' cap' w',w'.ownsRow base 149 5 (.slice ao' (n+m) cap') (n+m) (fentF.all (xs++zs))→GRow fentF w' ao' (n+m) cap' (xs++zs)→w.grownBy w' v.ownBlock→Below base w w'→wpList Tryz.prog ops Q rest (a.put o.dst (.slice ao' (n+m) cap')) w') :
  wpList Tryz.prog ops Q (o::rest) a w :=
 zaa (F:=fentF) w hgd s x 58 149 ho base Tryz.underlying58 zkU rfl (by decide) v n xs hs hown ao m c zs hx hrow hsm hbase h

theorem zfW (ao:Option Addr) (n cap:Nat) (l:List FE) (w:World) (h:GRow fentF w ao n cap l) (hn:n≤16777216) :
  Calls Tryz.prog 94 #[.slice ao n cap] w fun r w'=>∃ao' cap',r=.returned (.slice ao' n cap')∧w'.ownsRow w.heap.size 149 5 (.slice ao' n cap') n (fentF.all l)∧GRow fentF w' ao' n cap' l∧Below w.heap.size w w':=by
 go_enter Tryz.func94,Tryz.ntmps94;go_wp2_with (at_builtin; refine zbf _ rfl _ _ rfl w.heap.size _ 0 [] rfl (zaO fentF w _ 149 w.heap.size (zr w _) (Nat.le_refl _)) ao n cap l rfl (h.below (zl _ _)) (by omega) (by simp) ?_)
 intro ao' cap' w' how hr hgr hb;have how:w'.ownsRow w.heap.size 149 5 (.slice ao' n cap') n (fentF.all l):=by simpa using how
 have hr:GRow fentF w' ao' n cap' l:=by simpa using hr
 have HO:=hide how;have HB:=hide ((zl w _).trans hb);clear how hgr hb;go_wp2;go_ret;exact ⟨ao',cap',(by simp),HO.out,hr,HB.out⟩

theorem zig {l:List FE} {k:Nat} {x:FE} (h:l[k]?=some x):l.drop k=x::l.drop (k+1):=by
 have hk:=(List.getElem?_eq_some_iff.1 h).1;rw [List.drop_eq_getElem_cons hk];rw [List.getElem?_eq_getElem hk] at h;cases h
 rfl

theorem zin {α:Type} (F:Flat α) (w:World) (o:Obj) (x:α) (cs:Array Value) (T:TypeId) (h:cs.toList=F.cs x):GRow F ((w.alloc o).alloc (.cells cs T)) (some ⟨w.heap.size+1,0,none⟩) 1 1 [x]:=by
 have:=zcD F (w.alloc o) x cs T h
 rw [show (w.alloc o).heap.size=w.heap.size+1 by simp] at this;exact this

theorem zkF {x:FE} {zs r:List FE} (h:x.s=true):zs++[x]++ageF r=zs++ageF (x::r):=by
 have:ageF (x::r)=x::ageF r:=by unfold ageF; rw [List.filterMap_cons]; unfold ageE; rw [h]; rfl
 rw [this]; simp
theorem zlv {x:FE} {zs r:List FE} (h:x.s=false) (ha:x.a < 4):zs++[(⟨x.t,x.m,x.p,x.a+1,x.s⟩:FE)]++ageF r=zs++ageF (x::r):=by
 have:ageF (x::r)=⟨x.t,x.m,x.p,x.a+1,x.s⟩::ageF r:=by unfold ageF; rw [List.filterMap_cons]; unfold ageE; simp [h,ha]
 rw [this]; simp
theorem zlY {x:FE} {zs r:List FE} (h:x.s=false) (ha:¬x.a < 4):zs++ageF r=zs++ageF (x::r):=by
 have:ageF (x::r)=ageF r:=by unfold ageF; rw [List.filterMap_cons]; unfold ageE; simp [h,ha]
 rw [this]

theorem zhU (ao:Option Addr) (n cap:Nat) (l:List FE) (w:World) (h:GRow fentF w ao n cap l) (hn:n≤16777216) (hR:∀x∈l,x.Rng) :
  Calls Tryz.prog 53 #[.slice ao n cap] w fun r w'=>∃ao' cap',r=.returned (.slice ao' (ageF l).length cap')∧w'.ownsRow w.heap.size 149 5 (.slice ao' (ageF l).length cap') (ageF l).length (fentF.all (ageF l))∧GRow fentF w' ao' (ageF l).length cap' (ageF l)∧Below w.heap.size w w':=by
 have hle:=h.le;have htop:=h.top;unfold maxLen at htop;have hsz:=h.size;have o0:=zaO fentF w _ 149 _ (zr w (.cells #[] 149)) (Nat.le_refl _);have b0:=zl w (.cells #[] 149);go_enter Tryz.func53,Tryz.ntmps53;go_wp2
 go_loopw [3,4] (fun o i wr=>∃(k:Nat) (zs:List FE) (az:Option Addr) (cz nz:Nat),k≤n∧i=.int .i64 k∧o=.slice az nz cz∧zs.length=nz∧nz≤k∧wr.ownsRow w.heap.size 149 5 (.slice az nz cz) nz (fentF.all zs)∧zs++ageF (l.drop k)=ageF l∧Below w.heap.size w wr) (fun _ i _=>n - (intOf i).toNat)
 case atStart=>exact ⟨0,[],_,_,0,Nat.zero_le _,rfl,rfl,rfl,Nat.zero_le _,o0,by simp,b0⟩
 case round =>
  obtain ⟨k,zs,az,cz,nz,hk,rfl,rfl,hzs,hnz,how,hz,hb⟩:=hrel;clear o0 b0;have hws:=hb.size;by_cases hlt:k < n
  ·obtain ⟨x,b,off,hx,rfl,a0,a1,a2,a3,a4⟩:=zbP (h.below hb) k hlt;have hdr:=zig hx;rw [hdr] at hz;cases hs:x.s
   ·rw [hs] at a4;by_cases ha:x.a < 4
    ·obtain ⟨-,-,-,r1,r2⟩:=hR x (List.mem_of_getElem? hx);have hw:IntKind.i64.wrap (x.a+1)=x.a+1:=zeF _ (by omega);have hcs:(#[.int .i64 x.t,.int .i64 x.m,.int .i64 x.p,.int .i64 (x.a+1),.bool false]:Array Value).toList=fentF.cs ((⟨x.t,x.m,x.p,x.a+1,x.s⟩:FE)):=by simp [fentF, *]
     have HCS:=hide hcs;clear hcs;have hl1:(zs++[(⟨x.t,x.m,x.p,x.a+1,x.s⟩:FE)]).length=nz+1:=by simp [hzs]
     have HL:=hide hl1;have how1:=zi how (zL wr (.cells #[.int .i64 x.t,.int .i64 x.m,.int .i64 x.p,.int .i64 (x.a+1),.bool false] 149) (.cells #[.int .i64 x.t,.int .i64 x.m,.int .i64 x.p,.int .i64 (x.a+1),.bool false] 149));have HBR:=hide (zc hb (zL wr (.cells #[.int .i64 x.t,.int .i64 x.m,.int .i64 x.p,.int .i64 (x.a+1),.bool false] 149) (.cells #[.int .i64 x.t,.int .i64 x.m,.int .i64 x.p,.int .i64 (x.a+1),.bool false] 149)));have hbase9:w.heap.size≤((wr.alloc (.cells #[.int .i64 x.t,.int .i64 x.m,.int .i64 x.p,.int .i64 (x.a+1),.bool false] 149)).alloc (.cells #[.int .i64 x.t,.int .i64 x.m,.int .i64 x.p,.int .i64 (x.a+1),.bool false] 149)).heap.size:=by simp; omega
     have HQ:=hide (show zs++[(⟨x.t,x.m,x.p,x.a+1,x.s⟩:FE)]++ageF (l.drop (k+1))=ageF l from (zlv hs ha).trans hz);clear how hb hz hl1;(try clear hs);go_wp2_with (at_builtin; refine zbf _ rfl _ _ rfl w.heap.size _ nz zs rfl how1 _ 1 1 [(⟨x.t,x.m,x.p,x.a+1,x.s⟩:FE)] rfl (zin fentF _ _ ((⟨x.t,x.m,x.p,x.a+1,x.s⟩:FE)) _ _ HCS.out) (by omega) hbase9 ?_)
     intro ao9 cap9 w9 how9 hr9 hgr9 hb9;have HB9:=hide (HBR.out.trans hb9);have HO:=hide how9;clear how9 hr9 hgr9 hb9 how1 HBR;go_wp2
     go_roundw
     case rel=>exact ⟨k+1,zs++[(⟨x.t,x.m,x.p,x.a+1,x.s⟩:FE)],ao9,cap9,nz+1,by omega,by go_num,rfl,HL.out,by omega,HO.out,HQ.out,HB9.out⟩
     case measure=>simp [intOf]; omega
    ·have ha2:(4:Int)≤x.a:=by omega
     have HO:=hide (zi how (zl wr (.cells #[.int .i64 x.t,.int .i64 x.m,.int .i64 x.p,.int .i64 x.a,.bool false] 149)));have HB9:=hide (zc hb (zl wr (.cells #[.int .i64 x.t,.int .i64 x.m,.int .i64 x.p,.int .i64 x.a,.bool false] 149)));have HQ:=hide (show zs++ageF (l.drop (k+1))=ageF l from (zlY hs ha).trans hz);clear how hb hz;go_wp2
     go_roundw
     case rel=>exact ⟨k+1,zs,az,cz,nz,by omega,by go_num,rfl,hzs,by omega,HO.out,HQ.out,HB9.out⟩
     case measure=>simp [intOf]; omega
   ·rw [hs] at a4;have hcs:(#[.int .i64 x.t,.int .i64 x.m,.int .i64 x.p,.int .i64 x.a,.bool true]:Array Value).toList=fentF.cs (x):=by simp [fentF, *]
    have HCS:=hide hcs;clear hcs;have hl1:(zs++[x]).length=nz+1:=by simp [hzs]
    have HL:=hide hl1;have how1:=zi how (zL wr (.cells #[.int .i64 x.t,.int .i64 x.m,.int .i64 x.p,.int .i64 x.a,.bool true] 149) (.cells #[.int .i64 x.t,.int .i64 x.m,.int .i64 x.p,.int .i64 x.a,.bool true] 149));have HBR:=hide (zc hb (zL wr (.cells #[.int .i64 x.t,.int .i64 x.m,.int .i64 x.p,.int .i64 x.a,.bool true] 149) (.cells #[.int .i64 x.t,.int .i64 x.m,.int .i64 x.p,.int .i64 x.a,.bool true] 149)));have hbase9:w.heap.size≤((wr.alloc (.cells #[.int .i64 x.t,.int .i64 x.m,.int .i64 x.p,.int .i64 x.a,.bool true] 149)).alloc (.cells #[.int .i64 x.t,.int .i64 x.m,.int .i64 x.p,.int .i64 x.a,.bool true] 149)).heap.size:=by simp; omega
    have HQ:=hide (show zs++[x]++ageF (l.drop (k+1))=ageF l from (zkF hs).trans hz);clear how hb hz hl1;(try clear hs);go_wp2_with (at_builtin; refine zbf _ rfl _ _ rfl w.heap.size _ nz zs rfl how1 _ 1 1 [x] rfl (zin fentF _ _ (x) _ _ HCS.out) (by omega) hbase9 ?_)
    intro ao9 cap9 w9 how9 hr9 hgr9 hb9;have HB9:=hide (HBR.out.trans hb9);have HO:=hide how9;clear how9 hr9 hgr9 hb9 how1 HBR;go_wp2
    go_roundw
    case rel=>exact ⟨k+1,zs++[x],ao9,cap9,nz+1,by omega,by go_num,rfl,HL.out,by omega,HO.out,HQ.out,HB9.out⟩
    case measure=>simp [intOf]; omega
  ·have hkn:k=n:=by omega
   subst hkn;rw [List.drop_eq_nil_of_le (by omega)] at hz;have hz:zs=ageF l:=by simpa [ageF] using hz
   have hl:nz=(ageF l).length:=by rw [← hz]; exact hzs.symm
   rw [hz] at how;subst hl;have HO:=hide how;have HR:=hide (zB how);have HB:=hide hb;clear how hb;go_wp2;go_ret;exact ⟨_,_,rfl,HO.out,HR.out,HB.out⟩

theorem ze5 {x:FE} {p:Int} {zs r:List FE} (h:(x.s || (x.p != p))=true):zs++[x]++zY r p=zs++zY (x::r) p:=by
 have:zY (x::r) p=x::zY r p:=by unfold zY; rw [List.filter_cons,if_pos h]
 rw [this]; simp
theorem zkV {x:FE} {p:Int} {zs r:List FE} (h:(x.s || (x.p != p))=false):zs++zY r p=zs++zY (x::r) p:=by
 have:zY (x::r) p=zY r p:=by unfold zY; rw [List.filter_cons,if_neg (by rw [h]; exact Bool.false_ne_true)]
 rw [this]

theorem zfX (ao:Option Addr) (n cap:Nat) (l:List FE) (p:Int) (w:World) (h:GRow fentF w ao n cap l) (hn:n≤16777216) :
  Calls Tryz.prog 103 #[.slice ao n cap,.int .i64 p] w fun r w'=>∃ao' cap',r=.returned (.slice ao' (zY l p).length cap')∧w'.ownsRow w.heap.size 149 5 (.slice ao' (zY l p).length cap') (zY l p).length (fentF.all (zY l p))∧GRow fentF w' ao' (zY l p).length cap' (zY l p)∧Below w.heap.size w w':=by
 have hle:=h.le;have htop:=h.top;unfold maxLen at htop;have hsz:=h.size;have o0:=zaO fentF w _ 149 _ (zr w (.cells #[] 149)) (Nat.le_refl _);have b0:=zl w (.cells #[] 149);go_enter Tryz.func103,Tryz.ntmps103;go_wp2
 go_loopw [5,6] (fun o i wr=>∃(k:Nat) (zs:List FE) (az:Option Addr) (cz nz:Nat),k≤n∧i=.int .i64 k∧o=.slice az nz cz∧zs.length=nz∧nz≤k∧wr.ownsRow w.heap.size 149 5 (.slice az nz cz) nz (fentF.all zs)∧zs++zY (l.drop k) p=zY l p∧Below w.heap.size w wr) (fun _ i _=>n - (intOf i).toNat)
 case atStart=>exact ⟨0,[],_,_,0,Nat.zero_le _,rfl,rfl,rfl,Nat.zero_le _,o0,by simp,b0⟩
 case round =>
  obtain ⟨k,zs,az,cz,nz,hk,rfl,rfl,hzs,hnz,how,hz,hb⟩:=hrel;clear o0 b0;have hws:=hb.size;by_cases hlt:k < n
  ·obtain ⟨x,b,off,hx,rfl,a0,a1,a2,a3,a4⟩:=zbP (h.below hb) k hlt;have hdr:=zig hx;rw [hdr] at hz;cases hs:x.s
   ·rw [hs] at a4;cases hp:(x.p != p)
    ·have hq:(x.s || (x.p != p))=false:=by rw [hs,hp]; rfl
     have HO:=hide how;have HB9:=hide hb;have HQ:=hide (show zs++zY (l.drop (k+1)) p=zY l p from (zkV hq).trans hz);clear how hb hz;go_wp2
     go_roundw
     case rel=>exact ⟨k+1,zs,az,cz,nz,by omega,by go_num,rfl,hzs,by omega,HO.out,HQ.out,HB9.out⟩
     case measure=>simp [intOf]; omega
    ·have hq:(x.s || (x.p != p))=true:=by rw [hs,hp]; rfl
     have hcs:(#[.int .i64 x.t,.int .i64 x.m,.int .i64 x.p,.int .i64 x.a,.bool false]:Array Value).toList=fentF.cs (x):=by simp [fentF, *]
     have HCS:=hide hcs;clear hcs;have hl1:(zs++[x]).length=nz+1:=by simp [hzs]
     have HL:=hide hl1;have how1:=zi how (zl wr (.cells #[.int .i64 x.t,.int .i64 x.m,.int .i64 x.p,.int .i64 x.a,.bool false] 149));have HBR:=hide (zc hb (zl wr (.cells #[.int .i64 x.t,.int .i64 x.m,.int .i64 x.p,.int .i64 x.a,.bool false] 149)));have hbase9:w.heap.size≤(wr.alloc (.cells #[.int .i64 x.t,.int .i64 x.m,.int .i64 x.p,.int .i64 x.a,.bool false] 149)).heap.size:=by simp; omega
     have HQ:=hide (show zs++[x]++zY (l.drop (k+1)) p=zY l p from (ze5 hq).trans hz);clear how hb hz hl1;(try clear hs);go_wp2_with (at_builtin; refine zbf _ rfl _ _ rfl w.heap.size _ nz zs rfl how1 _ 1 1 [x] rfl (zcD fentF _ (x) _ _ HCS.out) (by omega) hbase9 ?_)
     intro ao9 cap9 w9 how9 hr9 hgr9 hb9;have HB9:=hide (HBR.out.trans hb9);have HO:=hide how9;clear how9 hr9 hgr9 hb9 how1 HBR;go_wp2
     go_roundw
     case rel=>exact ⟨k+1,zs++[x],ao9,cap9,nz+1,by omega,by go_num,rfl,HL.out,by omega,HO.out,HQ.out,HB9.out⟩
     case measure=>simp [intOf]; omega
   ·rw [hs] at a4;have hq:(x.s || (x.p != p))=true:=by rw [hs]; rfl
    have hcs:(#[.int .i64 x.t,.int .i64 x.m,.int .i64 x.p,.int .i64 x.a,.bool true]:Array Value).toList=fentF.cs (x):=by simp [fentF, *]
    have HCS:=hide hcs;clear hcs;have hl1:(zs++[x]).length=nz+1:=by simp [hzs]
    have HL:=hide hl1;have how1:=zi how (zl wr (.cells #[.int .i64 x.t,.int .i64 x.m,.int .i64 x.p,.int .i64 x.a,.bool true] 149));have HBR:=hide (zc hb (zl wr (.cells #[.int .i64 x.t,.int .i64 x.m,.int .i64 x.p,.int .i64 x.a,.bool true] 149)));have hbase9:w.heap.size≤(wr.alloc (.cells #[.int .i64 x.t,.int .i64 x.m,.int .i64 x.p,.int .i64 x.a,.bool true] 149)).heap.size:=by simp; omega
    have HQ:=hide (show zs++[x]++zY (l.drop (k+1)) p=zY l p from (ze5 hq).trans hz);clear how hb hz hl1;(try clear hs);go_wp2_with (at_builtin; refine zbf _ rfl _ _ rfl w.heap.size _ nz zs rfl how1 _ 1 1 [x] rfl (zcD fentF _ (x) _ _ HCS.out) (by omega) hbase9 ?_)
    intro ao9 cap9 w9 how9 hr9 hgr9 hb9;have HB9:=hide (HBR.out.trans hb9);have HO:=hide how9;clear how9 hr9 hgr9 hb9 how1 HBR;go_wp2
    go_roundw
    case rel=>exact ⟨k+1,zs++[x],ao9,cap9,nz+1,by omega,by go_num,rfl,HL.out,by omega,HO.out,HQ.out,HB9.out⟩
    case measure=>simp [intOf]; omega
  ·have hkn:k=n:=by omega
   subst hkn;rw [List.drop_eq_nil_of_le (by omega)] at hz;have hz:zs=zY l p:=by simpa [zY] using hz
   have hl:nz=(zY l p).length:=by rw [← hz]; exact hzs.symm
   rw [hz] at how;subst hl;have HO:=hide how;have HR:=hide (zB how);have HB:=hide hb;clear how hb;go_wp2;go_ret;exact ⟨_,_,rfl,HO.out,HR.out,HB.out⟩

theorem ze6 {a c:World} {row:Option Nat} (h:a.grownBy c row):a.grownBy c.drew row:=⟨h.os,h.tape,h.output,h.size,h.block⟩

theorem zc9 {w:World} {i:Nat} {o:Obj} (h:w.heap[i]?=some o):w.drew.heap[i]?=some o:=h

theorem zgT {α:Type} {l:List α} {k:Nat} {x y:α} (hx:l[k]?=some x):∃pre post,l=pre++x::post∧k=pre.length∧pre++y::post=l.set k y:=by
 obtain ⟨hk,rfl⟩:=List.getElem?_eq_some_iff.1 hx;refine ⟨l.take k,l.drop (k+1), ?_, ?_, ?_⟩
 ·rw [← List.drop_eq_getElem_cons hk,List.take_append_drop]
 ·rw [List.length_take]; omega
 ·rw [List.set_eq_take_append_cons_drop,if_pos hk]

theorem zio {w:World} {base g n cap k:Nat} {l:List PT} {x:PT} (v:VD) (h:w.ownsRow base 103 8 (.slice (some ⟨g,0,none⟩) n cap) n (ptF.all (l))) (hx:l[k]?=some x) :
  ((((((w.setCell ⟨g,k*8+2,none⟩ (.bool true)).setCell ⟨g,k*8+3,none⟩ (.int .i64 v.r)).setCell ⟨g,k*8+4,none⟩ (.int .i64 v.c)).setCell ⟨g,k*8+5,none⟩ (.int .i64 v.h)).setCell ⟨g,k*8+6,none⟩ (.int .i64 v.b)).setCell ⟨g,k*8+7,none⟩ (.int .i64 v.p)).ownsRow base 103 8 (.slice (some ⟨g,0,none⟩) n cap) n (ptF.all (l.set k ⟨x.up,x.k,true,v⟩)):=by
 obtain ⟨pre,post,e0,rfl,e1⟩:=zgT (y:=(⟨x.up,x.k,true,v⟩:PT)) hx;rw [e0] at h;have R0:=zt (F:=ptF) (x':=⟨x.up,x.k,true,⟨x.v.r,x.v.c,x.v.h,x.v.b,x.v.p⟩⟩) h 2 (.bool true) (by decide) rfl;have R1:=zt (F:=ptF) (x':=⟨x.up,x.k,true,⟨v.r,x.v.c,x.v.h,x.v.b,x.v.p⟩⟩) R0 3 (.int .i64 v.r) (by decide) rfl;have R2:=zt (F:=ptF) (x':=⟨x.up,x.k,true,⟨v.r,v.c,x.v.h,x.v.b,x.v.p⟩⟩) R1 4 (.int .i64 v.c) (by decide) rfl;have R3:=zt (F:=ptF) (x':=⟨x.up,x.k,true,⟨v.r,v.c,v.h,x.v.b,x.v.p⟩⟩) R2 5 (.int .i64 v.h) (by decide) rfl;have R4:=zt (F:=ptF) (x':=⟨x.up,x.k,true,⟨v.r,v.c,v.h,v.b,x.v.p⟩⟩) R3 6 (.int .i64 v.b) (by decide) rfl;have R5:=zt (F:=ptF) (x':=⟨x.up,x.k,true,⟨v.r,v.c,v.h,v.b,v.p⟩⟩) R4 7 (.int .i64 v.p) (by decide) rfl;rw [e1] at R5;exact R5

theorem zcH {w:World} {g k:Nat} (v:VD):w.grownBy ((((((w.setCell ⟨g,k*8+2,none⟩ (.bool true)).setCell ⟨g,k*8+3,none⟩ (.int .i64 v.r)).setCell ⟨g,k*8+4,none⟩ (.int .i64 v.c)).setCell ⟨g,k*8+5,none⟩ (.int .i64 v.h)).setCell ⟨g,k*8+6,none⟩ (.int .i64 v.b)).setCell ⟨g,k*8+7,none⟩ (.int .i64 v.p)) (some g) :=
 zz (zz (zz (zz (zz (zg _ _) (zg _ _)) (zg _ _)) (zg _ _)) (zg _ _)) (zg _ _)

theorem zir {w:World} {base g n cap k:Nat} {l:List PT} {x:PT} (up:Bool) (h:w.ownsRow base 103 8 (.slice (some ⟨g,0,none⟩) n cap) n (ptF.all (l))) (hx:l[k]?=some x) :
  ((((((((w.setCell ⟨g,k*8,none⟩ (.bool up)).setCell ⟨g,k*8+1,none⟩ (.int .i64 x.k)).setCell ⟨g,k*8+2,none⟩ (.bool false)).setCell ⟨g,k*8+3,none⟩ (.int .i64 0)).setCell ⟨g,k*8+4,none⟩ (.int .i64 0)).setCell ⟨g,k*8+5,none⟩ (.int .i64 0)).setCell ⟨g,k*8+6,none⟩ (.int .i64 0)).setCell ⟨g,k*8+7,none⟩ (.int .i64 0)).ownsRow base 103 8 (.slice (some ⟨g,0,none⟩) n cap) n (ptF.all (l.set k ⟨up,x.k,false,⟨0,0,0,0,0⟩⟩)):=by
 obtain ⟨pre,post,e0,rfl,e1⟩:=zgT (y:=(⟨up,x.k,false,⟨0,0,0,0,0⟩⟩:PT)) hx;rw [e0] at h;have R:=zkf (y:=⟨up,x.k,false,⟨0,0,0,0,0⟩⟩) h;rw [e1] at R;exact R

theorem za2 {w:World} {base k:Nat} {e:TypeId} {a:Option Addr} {n c:Nat} {ys:List Value} (h:w.ownsRow base e k (.slice a n c) n ys) (hn:0 < n):∃g,a=some ⟨g,0,none⟩:=by
 rcases h.2 with ⟨e1,h0⟩ | ⟨g,cap',cur,e1,-⟩
 ·cases e1;omega
 ·cases e1;exact ⟨g,rfl⟩

theorem zcb {B:BR} (h:zG B=true):B.ports.length≤6∧0≤B.vers∧B.vers≤1000000∧0≤B.ticks∧B.ticks≤1000000:=by
 obtain ⟨-,-,-,h4,-,-,h7,-,-,-,h11⟩:=zaE h;rw [zip] at h7 h11;unfold in3 at h4
 simp at h4
 omega

theorem zdX {B:BR} {n:Nat} {port:Int} (hn:B.ports.length=n) (h:zbr B port=true):∃k:Nat,port=(k:Int)∧k < n∧∃x,B.ports[k]?=some x:=by
 unfold zbr at h;simp only [Bool.and_eq_true,decide_eq_true_eq] at h;obtain ⟨-,h0,h1⟩:=h;refine ⟨port.toNat,by omega,by omega,B.ports[port.toNat]'(by omega),List.getElem?_eq_getElem (by omega)⟩

theorem zh9 (l:List FE):(ageF l).length≤l.length:=List.length_filterMap_le _ _

theorem zf8 (ao:Option Addr) (n cap:Nat) (l:List FE) (w:World) (h:GRow fentF w ao n cap l) (hn:n≤16777216) :
  Calls Tryz.prog 113 #[.slice ao n cap] w fun r w'=>∃ao' cap',r=.returned (.slice ao' n cap')∧w'.ownsRow w.heap.size 149 5 (.slice ao' n cap') n (fentF.all l)∧GRow fentF w' ao' n cap' l∧Below w.heap.size w w':=by
 cases ao with
 | none =>
  have hc0:=h.nil rfl;have hn0:n=0:=by have:=h.le; omega
  subst hc0 hn0;have hl:l=[]:=List.eq_nil_of_length_eq_zero h.size;subst hl;have heq:∀W,(binOp .eql 58 (.slice none 0 0) (.slice none 0 0)).run Tryz.prog W=.ok (.bool true) W:=fun _=>by kernel_rfl
  go_enter Tryz.func113,Tryz.ntmps113;go_wp2;go_ret;exact ⟨none,0,rfl,World.ownsRow_nil _ _ _ _,zim _ _,Below.refl _ _⟩
 | some a =>
  have heq:∀W,(binOp .eql 58 (.slice (some a) n cap) (.slice none 0 0)).run Tryz.prog W=.ok (.bool false) W:=fun _=>by kernel_rfl
  go_enter Tryz.func113,Tryz.ntmps113;go_wp2_with (at_builtin; refine zbf _ rfl _ _ rfl w.heap.size _ 0 [] rfl (zaO fentF w _ 149 w.heap.size (zr w _) (Nat.le_refl _)) (some a) n cap l rfl (h.below (zl _ _)) (by omega) (by simp) ?_)
  intro ao' cap' w' how hr hgr hb;have how:w'.ownsRow w.heap.size 149 5 (.slice ao' n cap') n (fentF.all l):=by simpa using how
  have hr:GRow fentF w' ao' n cap' l:=by simpa using hr
  have HO:=hide how;have HB:=hide ((zl w _).trans hb);clear how hgr hb;go_wp2;go_ret;exact ⟨ao',cap',(by simp),HO.out,hr,HB.out⟩

end Go.Proofs.YtpaneiaflfegoaaGreat
