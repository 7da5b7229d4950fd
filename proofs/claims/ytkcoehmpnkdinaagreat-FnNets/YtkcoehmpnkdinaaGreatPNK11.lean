/-
  Packed: VtabCopy VtabOr VtabSet VtabRowM BrOwn VtabNewS FdbPutS BrPorts FdbImplL0 CloneI.
-/
import Derived.Test.YtkcoehmpnkdinaaGreatPNFdbOkS
import Derived.Test.YtkcoehmpnkdinaaGreatPNK03
import Derived.Test.YtkcoehmpnkdinaaGreatPNVtabOkS
namespace Go.Proofs.YtkcoehmpnkdinaaGreat
set_option maxRecDepth 100000
set_option maxHeartbeats 16000000
open Go.RowKit

def intF:Flat Int where
 k:=1
 cs:=fun x=>[.int .i64 x]
 len:=fun _=>rfl
 pos:=by decide
 one:=fun _ v hv=>by
  simp only [List.mem_cons,List.not_mem_nil,or_false] at hv;subst hv
  rfl

theorem zaF:∀(l:List Int),intF.all l=cI l
 | []=>rfl
 | x::l=>by
  have:=zaF l
  rw [Flat.all_cons,this]
  rfl

theorem IRow.flat {w:World} {ao:Option Addr} {n c:Nat} {l:List Int} (h:IRow w ao n c l):GRow intF w ao n c l where
 size:=h.size
 le:=h.le
 top:=h.top
 nil:=h.nil
 cell:=by
  rcases h.cell with h0 | ⟨b,off,ha,hc⟩
  ·exact .inl h0
  ·refine .inr ⟨b,off,ha,fun i x hi j v hv => ?_⟩;have hl:=(List.getElem?_eq_some_iff.1 hi).1;have hs:=h.size
   have:=hc i (by omega)
   rw [List.getD_eq_getElem?_getD,hi] at this
   match j,hv with
   | 0,hv =>
    cases hv
    show w.cell? ⟨b,off+i*1+0,none⟩=_
    rw [Nat.mul_one,Nat.add_zero];exact this
   | j+1,hv=>simp [intF] at hv

theorem zbA:(Tryz.prog.info? 98).map (fun i=>(i.zero,i.size,i.bytes))=some (some (.agg #[.int .i64 0,.int .i64 0,.int .i64 0]),vrowF.k,24):=by kernel_rfl

theorem zC {w w':World} {base k:Nat} {e:TypeId} {v:Value} {n:Nat} {xs:List Value} (h:w.ownsRow base e k v n xs) {base2 k2:Nat} {e2:TypeId} {v2:Value} {n2:Nat} {xs2:List Value} (h2:w.ownsRow base2 e2 k2 v2 n2 xs2) (hne:(e:Nat)≠e2) (hg:w.grownBy w' v2.ownBlock):w'.ownsRow base e k v n xs:=by
 refine h.kept hg ?_;obtain ⟨-,h | ⟨g,cap,cur,e1,-,hh,-⟩⟩:=h
 ·rw [h.1]; exact .inl rfl
 ·obtain ⟨-,h2 | ⟨g2,cap2,cur2,e2',-,hh2,-⟩⟩:=h2
  ·rw [h2.1]; exact .inr (by rw [e1]; intro hc; cases hc)
  ·refine .inr (fun hc => ?_);rw [e1,e2'] at hc;have hgg:g=g2:=by simpa [Value.ownBlock] using hc
   subst hgg;rw [hh] at hh2;cases hh2;exact hne rfl

structure VOwn (w:World) (base:Nat) (a:Option Addr) (n c:Nat) (o:Option Addr) (p q:Nat) (v:VT):Prop where
 rows:w.ownsRow base 98 3 (.slice a n c) n (vrowF.all v.rows)
 own:w.ownsRow base 3 1 (.slice o p q) p (cI v.own)
 i64:I64s v.own

theorem VOwn.tab {w:World} {base:Nat} {a:Option Addr} {n c:Nat} {o:Option Addr} {p q:Nat} {v:VT} (h:VOwn w base a n c o p q v):VTab w a n c o p q v:=⟨zD (F:=vrowF) h.rows,zcp h.own h.i64⟩

theorem zat (a:Option Addr) (n c:Nat) (o:Option Addr) (p q:Nat) (v:VT) (w:World) (h:VTab w a n c o p q v) (hn:n≤16777216) (hp:p≤16777216) :
  Calls Tryz.prog 85 #[.agg #[.slice a n c,.slice o p q]] w fun r w'=>∃a' c' o' q',r=.returned (.agg #[.slice a' n c',.slice o' p q'])∧VOwn w' w.heap.size a' n c' o' p q' v∧Below w.heap.size w w':=by
 generalize hw1:w.alloc (Obj.cells #[Value.slice a n c,Value.slice o p q] 59)=w1;generalize hw2:w1.alloc (Obj.cells #[Value.slice none 0 0,Value.slice none 0 0] 59)=w2;have s1:w1.heap.size=w.heap.size+1:=by subst hw1; simp
 have s2:w2.heap.size=w.heap.size+1+1:=by subst hw2; simp [s1]
 have hk1:=zk hw2;have b01:=zb hw1;have vb:Below w1.heap.size w1 w2.drew:=by subst hw2; exact zr (zg _ _)
 have bw:Below w.heap.size w w2:=by subst hw2; exact zc b01 (zg _ _)
 have vv:Below w2.heap.size w2 w2.drew:=zr (Below.refl _ _);have h12:w1.heap.size≤w2.heap.size:=by omega
 have S1:=hide s1;have S2:=hide s2;have H12:=hide h12;have HL:Hid (∀b,some w1.heap.size=some b→b < w2.heap.size):=hide (by intro b hb; cases hb; omega);clear s1 s2 h12;go_enter Tryz.func85,Tryz.ntmps85;go_wp2_with fail
 refine wp_region_held_drew (S:=(fun W=>zcc W w.heap.size 0 (.slice a n c)∧zcc W w.heap.size 1 (.slice o p q))) (by kernel_rfl) (zW hw1 vb) (fun hHeld => ?_)
 repeat' first
 |
  with_reducible refine kLa ?_
  first
  |
   refine kLf 1 ?_;refine kK 1 ?_
  |
   refine kLf 2 ?_;refine kK 2 ?_
  |
   refine kLf 5 ?_;refine kK 5 ?_
  |
   refine kLf 6 ?_;refine kK 6 ?_
  |
   refine kLf 8 ?_;refine kK 8 ?_
  |
   refine kLp [0,4] ?_
  |
   refine kLp [3,4] ?_
  |
   refine kLp [4] ?_
  |
   refine kLp [7] ?_
  |
   refine kLp [9] ?_
  |
   refine kLp [3] ?_
  |
   refine kLp [0] ?_
  |
   refine wpAnyH_done (by kernel_rfl) ?_ _;have HR:=hide hR;have HI:=hide hI;clear hR hI;go_wp2;refine bodyPost_ret (v:=.agg #[.slice aohR n cphR,.slice aohI p cphI]) (by simp [results,Tryz.results85,go_sem, *]) rfl ⟨_,_,_,_,rfl,⟨zL HR.out bw.size,zL (by rw [← zaF]; exact HI.out) bw.size,h.own.byte⟩,zc b01 vb⟩
 |
  exact AllReadyH.nil
 |
  refine kLc 0 (fun K hK => ?_) ?_;go_simp
  first
  | refine zaj (K:=K _) (fun wx hk hbx => ?_)
  | refine zab (K:=K _) (fun wx hk hbx => ?_)
  (try have hI:=zl hI hbx);have hR:=zaE vrowF w2 wx 98 _ hk vv.size;have vv:=zc vv hbx;have vb:=zc vb hbx;clear hk hbx;refine kO hK (zW hw1 vb) fun hHeld => ?_
  clear hK K
 |
  refine kLc 3 (fun K hK => ?_) ?_;refine zI (F:=vrowF) rfl _ _ 57 98 rfl w2.heap.size Tryz.underlying57 zbA rfl (by decide) _ 0 [] rfl hR a n c v.rows rfl (h.rows.below (zc bw vv)) (by omega) vv.size ?_;intro aohR cphR wx how hrow hgr hbx;(try have hI:=zC hI hR (by decide) hgr);have hR:=how;have vv:=vv.trans hbx;have vb:=vb.trans (hbx.mono H12.out);clear how hrow hgr hbx;simp only [Nat.zero_add,List.nil_append] at hR ⊢;refine kO hK (zW hw1 vb) fun hHeld => ?_
  clear hK K
 |
  refine kLc 4 (fun K hK => ?_) ?_;go_simp
  first
  | refine zaj (K:=K _) (fun wx hk hbx => ?_)
  | refine zab (K:=K _) (fun wx hk hbx => ?_)
  (try have hR:=zl hR hbx);have hI:=zaE intF w2 wx 3 _ hk vv.size;have vv:=zc vv hbx;have vb:=zc vb hbx;clear hk hbx;refine kO hK (zW hw1 vb) fun hHeld => ?_
  clear hK K
 |
  refine kLc 7 (fun K hK => ?_) ?_;refine zI (F:=intF) rfl _ _ 24 3 rfl w2.heap.size Tryz.underlying24 Tryz.infoI64 rfl (by decide) _ 0 [] rfl hI o p q v.own rfl ((h.own.below (zc bw vv)).flat) (by omega) vv.size ?_;intro aohI cphI wx how hrow hgr hbx;(try have hR:=zC hR hI (by decide) hgr);have hI:=how;have vv:=vv.trans hbx;have vb:=vb.trans (hbx.mono H12.out);clear how hrow hgr hbx;simp only [Nat.zero_add,List.nil_append] at hI ⊢;refine kO hK (zW hw1 vb) fun hHeld => ?_
  clear hK K
 |
  refine kLc 9 (fun K hK => ?_) ?_;obtain ⟨⟨g0,g1⟩,f0,f1⟩:=zG (za hk1 vv);go_simp;have hR:=zw (zw hR (zm (rb:=w1.heap.size) 0 (.slice aohR n cphR)) HL.out) (zm (rb:=w1.heap.size) 1 (.slice aohI p cphI)) HL.out;have hI:=zw (zw hI (zm (rb:=w1.heap.size) 0 (.slice aohR n cphR)) HL.out) (zm (rb:=w1.heap.size) 1 (.slice aohI p cphI)) HL.out;have vb:=zj (zj vb (Nat.le_refl _) 0 (.slice aohR n cphR)) (Nat.le_refl _) 1 (.slice aohI p cphI);refine kO hK (zW hw1 vb) fun hHeld => ?_
  clear hK K

theorem VOwn.below {w w':World} {base:Nat} {a:Option Addr} {n c:Nat} {o:Option Addr} {p q:Nat} {v:VT} (h:VOwn w base a n c o p q v) (hb:Below w.heap.size w w'):VOwn w' base a n c o p q v :=
 ⟨zl h.rows hb,zl h.own hb,h.i64⟩

theorem VOwn.lt {w:World} {base base':Nat} {a:Option Addr} {n c:Nat} {o:Option Addr} {p q:Nat} {v:VT} (h:VOwn w base a n c o p q v) (hle:base'≤base):VOwn w base' a n c o p q v :=
 ⟨zL h.rows hle,zL h.own hle,h.i64⟩

theorem VOwn.set2 {w:World} {base:Nat} {a:Option Addr} {n c:Nat} {o:Option Addr} {p q:Nat} {v:VT} (h:VOwn w base a n c o p q v) {g:Nat} (hg:g < base) (u1 u2:Value):VOwn ((w.setCell ⟨g,0,none⟩ u1).setCell ⟨g,1,none⟩ u2) base a n c o p q v:=by
 have hl:∀b,some g=some b→b < base:=by intro b hb; cases hb; exact hg
 exact ⟨zw (zw h.rows (zm (rb:=g) 0 u1) hl) (zm (rb:=g) 1 u2) hl,zw (zw h.own (zm (rb:=g) 0 u1) hl) (zm (rb:=g) 1 u2) hl,h.i64⟩

theorem zi1 (a:Option Addr) (n c:Nat) (o:Option Addr) (p q:Nat) (x:VT) (a2:Option Addr) (n2 c2:Nat) (o2:Option Addr) (p2 q2:Nat) (w:World) (h:VTab w a n c o p q x) (hok:zU x p2=true) :
  Calls Tryz.prog 159 #[.agg #[.slice a n c,.slice o p q],.agg #[.slice a2 n2 c2,.slice o2 p2 q2]] w fun r w'=>r=.returned (.tuple #[.agg #[.slice a n c,.slice o p q],.bool true])∧Below w.heap.size w w':=by
 generalize hw1:w.alloc (Obj.cells #[Value.slice a n c,Value.slice o p q] 59)=w1;generalize hw2:w1.alloc (Obj.cells #[Value.slice a2 n2 c2,Value.slice o2 p2 q2] 59)=w2;generalize hw3:w2.alloc (Obj.cells #[Value.slice none 0 0,Value.slice none 0 0] 59)=w3;have b01:=zb hw1;have b12:=zb hw2;have b23:=zb hw3;have b13:=zc b12 b23;have b03:=zc b01 b13;have k2:=zk hw3;have hb1:=zW hw1 b13;have hb2:=zW hw2 b23;have h3:=h.below b03;go_enter Tryz.func159,Tryz.ntmps159;go_wp2_with (refine (zae a n c o p q x (p2:Int) _ h3).mono ?_; rintro r w4 ⟨rfl,hb4⟩; rw [hok]; have hc1:=zW hw1 (zc b13 hb4); obtain ⟨⟨g0,g1⟩,f0,f1⟩:=zG (za k2 hb4))
 have hbW:Below w.heap.size w ((w4.setCell ⟨w2.heap.size,0,none⟩ (.slice a n c)).setCell ⟨w2.heap.size,1,none⟩ (.slice o p q)):=zj (zj (zc b03 hb4) (zc b01 b12).size _ _) (zc b01 b12).size _ _;exact bodyPost_ret (v:=.tuple #[.agg #[.slice a n c,.slice o p q],.bool true]) (by simp [results,Tryz.results159,go_sem, *]) rfl ⟨rfl,hbW⟩

theorem zj2 (a:Option Addr) (n c:Nat) (o:Option Addr) (p q:Nat) (x:VT) (a2:Option Addr) (n2 c2:Nat) (o2:Option Addr) (p2 q2:Nat) (v:VT) (w:World) (h:VTab w a n c o p q x) (h2:VTab w a2 n2 c2 o2 p2 q2 v) (hok:zU x p2=false) (hn:n2≤16777216) (hp:p2≤16777216) :
  Calls Tryz.prog 159 #[.agg #[.slice a n c,.slice o p q],.agg #[.slice a2 n2 c2,.slice o2 p2 q2]] w fun r w'=>∃a' c' o' q',r=.returned (.tuple #[.agg #[.slice a' n2 c',.slice o' p2 q'],.bool false])∧VOwn w' w.heap.size a' n2 c' o' p2 q' v∧Below w.heap.size w w':=by
 generalize hw1:w.alloc (Obj.cells #[Value.slice a n c,Value.slice o p q] 59)=w1;generalize hw2:w1.alloc (Obj.cells #[Value.slice a2 n2 c2,Value.slice o2 p2 q2] 59)=w2;generalize hw3:w2.alloc (Obj.cells #[Value.slice none 0 0,Value.slice none 0 0] 59)=w3;have b01:=zb hw1;have b12:=zb hw2;have b23:=zb hw3;have b13:=zc b12 b23;have b03:=zc b01 b13;have k2:=zk hw3;have z3:w2.heap.size < w3.heap.size:=by rw [← hw3]; simp
 have hb1:=zW hw1 b13;have hb2:=zW hw2 b23;have h3:=h.below b03;have h4:=h2.below b03;go_enter Tryz.func159,Tryz.ntmps159;go_wp2_with (refine (zae a n c o p q x (p2:Int) _ h3).mono ?_; rintro r w4 ⟨rfl,hb4⟩; rw [hok]; have hc2:=zW hw2 (zc b23 hb4))
 go_wp2_with (refine (zat a2 n2 c2 o2 p2 q2 v _ (h4.below hb4) hn hp).mono ?_; rintro r w5 ⟨a',c',o',q',rfl,hO,hb5⟩; obtain ⟨⟨g0,g1⟩,f0,f1⟩:=zG (za k2 (zc hb4 hb5)))
 have hbW:Below w.heap.size w ((w5.setCell ⟨w2.heap.size,0,none⟩ (.slice a' n2 c')).setCell ⟨w2.heap.size,1,none⟩ (.slice o' p2 q')):=zj (zj (zc b03 (zc hb4 hb5)) (zc b01 b12).size _ _) (zc b01 b12).size _ _;have hO':=(hO.set2 (g:=w2.heap.size) (by have:=hb4.size; omega) (.slice a' n2 c') (.slice o' p2 q')).lt (base':=w.heap.size) (by have:=hb4.size; have:=b03.size; omega);have HO:=hide hO';clear hO hO';exact bodyPost_ret (v:=.tuple #[.agg #[.slice a' n2 c',.slice o' p2 q'],.bool false]) (by simp [results,Tryz.results159,go_sem, *]) rfl ⟨_,_,_,_,rfl,HO.out,hbW⟩

def orV (x v:VT):VT × Bool:=if zU x v.own.length then (x,true) else (v,false)

def zcR (v:VT) (port id:Int):VT × Bool :=
 if zU v v.own.length && (decide (0≤port) && decide (port≤(v.own.length:Int) - 1)) then orV ⟨v.rows,v.own.set port.toNat id⟩ v else (v,false)

theorem VOwn.len {w:World} {base:Nat} {a:Option Addr} {n c:Nat} {o:Option Addr} {p q:Nat} {v:VT} (h:VOwn w base a n c o p q v):v.rows.length=n∧v.own.length=p:=⟨h.tab.rows.size,h.tab.own.size⟩

theorem VOwn.addr {w:World} {base:Nat} {a:Option Addr} {n c:Nat} {o:Option Addr} {p q:Nat} {v:VT} (h:VOwn w base a n c o p q v) (hp:0 < p):∃g,o=some ⟨g,0,none⟩∧base≤g∧g < w.heap.size :=
 zdC (F:=intF) (by rw [zaF]; exact h.own) hp

theorem VOwn.setOwn {w:World} {base:Nat} {a:Option Addr} {n c g p q:Nat} {v:VT} (h:VOwn w base a n c (some ⟨g,0,none⟩) p q v) {k:Nat} (hk:k < p) {id:Int} (hid : -9223372036854775808≤id∧id≤9223372036854775807) :
  ((∃u,w.cell? ⟨g,k,none⟩=some u)∧w.frozen? ⟨g,k,none⟩=false)∧VOwn (w.setCell ⟨g,k,none⟩ (.int .i64 id)) base a n c (some ⟨g,0,none⟩) p q ⟨v.rows,v.own.set k id⟩:=by
 have hl:=h.len.2;refine ⟨⟨?_,h.own.frozenAt k⟩,zC h.rows h.own (by decide) (zm (rb:=g) k _), ?_, ?_⟩
 ·rw [h.own.cellAt k (by omega)];exact ⟨_,List.getElem?_eq_getElem (by rw [zgp]; omega)⟩
 ·have:=(h.own.stored k (.int .i64 id)).1
  rw [show (cI v.own).set k (.int .i64 id)=cI (v.own.set k id) by simp [cI,List.map_set]] at this;exact this
 ·intro z hz;rcases List.mem_or_eq_of_mem_set hz with hz | rfl
  ·exact h.i64 z hz
  ·exact hid

theorem zdt (base:Nat) (a:Option Addr) (n c:Nat) (o:Option Addr) (p q:Nat) (x:VT) (a2:Option Addr) (n2 c2:Nat) (o2:Option Addr) (p2 q2:Nat) (v:VT) (w:World) (h:VOwn w base a n c o p q x) (h2:VTab w a2 n2 c2 o2 p2 q2 v) (hn:n2≤16777216) (hp:p2≤16777216) (hbase:base≤w.heap.size) :
  Calls Tryz.prog 159 #[.agg #[.slice a n c,.slice o p q],.agg #[.slice a2 n2 c2,.slice o2 p2 q2]] w fun r w'=>∃a' n' c' o' p' q',r=.returned (.tuple #[.agg #[.slice a' n' c',.slice o' p' q'],.bool (orV x v).2])∧VOwn w' base a' n' c' o' p' q' (orV x v).1∧Below w.heap.size w w':=by
 have hl:=h2.own.size;unfold orV;rw [hl];cases hok:zU x p2
 ·refine (zj2 a n c o p q x a2 n2 c2 o2 p2 q2 v w h.tab h2 hok hn hp).mono ?_;rintro r w' ⟨a',c',o',q',rfl,hO,hb⟩;exact ⟨a',n2,c',o',p2,q',rfl,hO.lt hbase,hb⟩
 ·refine (zi1 a n c o p q x a2 n2 c2 o2 p2 q2 w h.tab hok).mono ?_;rintro r w' ⟨rfl,hb⟩;exact ⟨a,n,c,o,p,q,rfl,h.below hb,hb⟩

theorem zeh (a:Option Addr) (n c:Nat) (o:Option Addr) (p q:Nat) (v:VT) (port id:Int) (w:World) (h:VTab w a n c o p q v) (hn:n≤16777216) (hp:p≤16777216) (hid : -9223372036854775808≤id∧id≤9223372036854775807) :
  Calls Tryz.prog 144 #[.agg #[.slice a n c,.slice o p q],.int .i64 port,.int .i64 id] w fun r w'=>∃a' n' c' o' p' q',r=.returned (.tuple #[.agg #[.slice a' n' c',.slice o' p' q'],.bool (zcR v port id).2])∧VOwn w' w.heap.size a' n' c' o' p' q' (zcR v port id).1∧Below w.heap.size w w':=by
 generalize hw1:w.alloc (Obj.cells #[Value.slice a n c,Value.slice o p q] 59)=w1;generalize hw2:w1.alloc (Obj.cells #[Value.slice none 0 0,Value.slice none 0 0] 59)=w2;have b01:=zb hw1;have b12:=zb hw2;have b02:=zc b01 b12;have k1:=zk hw2;have z2:w1.heap.size < w2.heap.size:=by rw [← hw2]; simp
 have hb1:=zW hw1 b12;have h2:=h.below b02;have hl:=h.own.size;have hsub:IntKind.i64.wrap ((p:Int) - 1)=(p:Int) - 1:=by rw [IntKind.wrap_i64]; omega
 have Z2:=hide z2;clear z2;unfold zcR;rw [hl];cases hok:zU v p
 ·rw [Bool.false_and,if_neg Bool.false_ne_true];go_enter Tryz.func144,Tryz.ntmps144;go_wp2_with (refine (zae a n c o p q v (p:Int) _ h2).mono ?_; rintro r w3 ⟨rfl,hb3⟩; rw [hok]; have hc1:=zW hw1 (zc b12 hb3))
  go_wp2_with (refine (zat a n c o p q v _ (h2.below hb3) hn hp).mono ?_; rintro r w4 ⟨a',c',o',q',rfl,hO,hb4⟩; obtain ⟨⟨g0,g1⟩,f0,f1⟩:=zG (za k1 (zc hb3 hb4)))
  have hbW:Below w.heap.size w ((w4.setCell ⟨w1.heap.size,0,none⟩ (.slice a' n c')).setCell ⟨w1.heap.size,1,none⟩ (.slice o' p q')):=zj (zj (zc b02 (zc hb3 hb4)) b01.size _ _) b01.size _ _;have hO':=(hO.set2 (g:=w1.heap.size) (by have:=hb3.size; have:=Z2.out; omega) (.slice a' n c') (.slice o' p q')).lt (base':=w.heap.size) (by have:=hb3.size; have:=b02.size; omega);have HO:=hide hO';clear hO hO';exact bodyPost_ret (v:=.tuple #[.agg #[.slice a' n c',.slice o' p q'],.bool false]) (by simp [results,Tryz.results144,go_sem, *]) rfl ⟨_,_,_,_,_,_,rfl,HO.out,hbW⟩
 ·rw [Bool.true_and];cases hin:(decide (0≤port) && decide (port≤(p:Int) - 1))
  ·rw [if_neg Bool.false_ne_true];have HIN:=hide hin;clear hin;go_enter Tryz.func144,Tryz.ntmps144;go_wp2_with (refine (zae a n c o p q v (p:Int) _ h2).mono ?_; rintro r w3 ⟨rfl,hb3⟩; rw [hok]; have hc1:=zW hw1 (zc b12 hb3))
   go_wp2_with (refine (zh port 0 ((p:Int) - 1) _).mono ?_; rintro r wy ⟨rfl,rfl⟩; rw [HIN.out])
   go_wp2_with (refine (zat a n c o p q v _ (h2.below hb3) hn hp).mono ?_; rintro r w4 ⟨a',c',o',q',rfl,hO,hb4⟩; obtain ⟨⟨g0,g1⟩,f0,f1⟩:=zG (za k1 (zc hb3 hb4)))
   have hbW:Below w.heap.size w ((w4.setCell ⟨w1.heap.size,0,none⟩ (.slice a' n c')).setCell ⟨w1.heap.size,1,none⟩ (.slice o' p q')):=zj (zj (zc b02 (zc hb3 hb4)) b01.size _ _) b01.size _ _;have hO':=(hO.set2 (g:=w1.heap.size) (by have:=hb3.size; have:=Z2.out; omega) (.slice a' n c') (.slice o' p q')).lt (base':=w.heap.size) (by have:=hb3.size; have:=b02.size; omega);have HO:=hide hO';clear hO hO';exact bodyPost_ret (v:=.tuple #[.agg #[.slice a' n c',.slice o' p q'],.bool false]) (by simp [results,Tryz.results144,go_sem, *]) rfl ⟨_,_,_,_,_,_,rfl,HO.out,hbW⟩
  ·rw [if_pos rfl];obtain ⟨k,rfl⟩:∃k:Nat,port=(k:Int):=⟨port.toNat,by simp at hin; omega⟩;have hk:k < p:=by simp at hin; omega
   rw [Int.toNat_natCast];have HIN:=hide hin;clear hin;have i1:(0:Int)≤(k:Int):=by omega
   have i2:(k:Int) < (p:Int):=by omega
   go_enter Tryz.func144,Tryz.ntmps144;go_wp2_with (refine (zae a n c o p q v (p:Int) _ h2).mono ?_; rintro r w3 ⟨rfl,hb3⟩; rw [hok]; have hc1:=zW hw1 (zc b12 hb3))
   go_wp2_with (refine (zh (k:Int) 0 ((p:Int) - 1) _).mono ?_; rintro r wy ⟨rfl,rfl⟩; rw [HIN.out])
   (go_wp2_with fail);refine (zat a n c o p q v _ (h2.below hb3) hn hp).mono ?_;rintro r w4 ⟨a',c',o',q',rfl,hO,hb4⟩;obtain ⟨g,hg0,hg1,hg2⟩:=hO.addr (by omega);subst hg0;generalize hw5:w4.alloc (Obj.cells #[Value.slice a' n c',Value.slice (some ⟨g,0,none⟩) p q'] 59)=w5;have b45:=zb hw5;have hO5:=hO.below b45;obtain ⟨⟨⟨u,cu⟩,cf⟩,hO6⟩:=hO5.setOwn hk hid;have b25:=zc hb3 (zc hb4 b45);have hgw:w.heap.size≤g∧w1.heap.size < g:=by have:=hb3.size; have:=b01.size; have:=Z2.out; omega
   have b16:Below w1.heap.size w1 (w5.setCell ⟨g,k,none⟩ (.int .i64 id)):=zj (zc b12 b25) (by omega) _ _;have b06:Below w.heap.size w (w5.setCell ⟨g,k,none⟩ (.int .i64 id)):=zj (zc b02 b25) hgw.1 _ _;have b26:Below w2.heap.size w2 (w5.setCell ⟨g,k,none⟩ (.int .i64 id)):=zj b25 (by have:=hb3.size; omega) _ _;have hc5:=zG (by rw [← hw5]; exact zt w4 _:w5.heap[w4.heap.size]? = some (.cells #[.slice a' n c',.slice (some ⟨g,0,none⟩) p q'] 59));have hc6:=zG (zam (b:=g) (j:=k) (u:=.int .i64 id) (by rw [← hw5]; exact zt w4 _:w5.heap[w4.heap.size]? = some (.cells #[.slice a' n c',.slice (some ⟨g,0,none⟩) p q'] 59)) (by omega));have hd6:=zW hw1 b16;have k6:=zam (b:=g) (j:=k) (u:=.int .i64 id) (za k1 b25) (by omega);have z6:w1.heap.size < w5.heap.size:=by have:=b25.size; have:=Z2.out; omega
   generalize hw6:w5.setCell ⟨g,k,none⟩ (.int .i64 id)=w6 at *;have HO6:=hide hO6;clear hO hO5 hO6;(go_wp2_with fail);refine (zdt w2.heap.size a' n c' (some ⟨g,0,none⟩) p q' _ a n c o p q v _ (HO6.out.lt hb3.size) (h.below b06) hn hp b26.size).mono ?_;rintro r w7 ⟨a7,n7,c7,o7,p7,q7,rfl,hO7,hb7⟩;obtain ⟨⟨g0,g1⟩,f0,f1⟩:=zG (za k6 hb7);have hbW:Below w.heap.size w ((w7.setCell ⟨w1.heap.size,0,none⟩ (.slice a7 n7 c7)).setCell ⟨w1.heap.size,1,none⟩ (.slice o7 p7 q7)):=zj (zj (zc b06 hb7) b01.size _ _) b01.size _ _;have hO':=(hO7.set2 (g:=w1.heap.size) Z2.out (.slice a7 n7 c7) (.slice o7 p7 q7)).lt (base':=w.heap.size) b02.size;have HO:=hide hO';clear hO7 hO' hw5 hw6;go_wp2;exact bodyPost_ret (v:=.tuple #[.agg #[.slice a7 n7 c7,.slice o7 p7 q7],.bool (orV ⟨v.rows,v.own.set k id⟩ v).2]) (by simp [results,Tryz.results144,go_sem, *]) rfl ⟨_,_,_,_,_,_,rfl,HO.out,hbW⟩

theorem zN {w:World} {base k:Nat} {e:TypeId} {v:Value} {n:Nat} {xs:List Value} (h:w.ownsRow base e k v n xs) {X:Nat} {cs:Array Value} {T:TypeId} (hX:w.heap[X]? = some (.cells cs T)) (hne:(e:Nat)≠T):∀b,v.ownBlock=some b→b≠X:=by
 obtain ⟨-,h | ⟨g,cap,cur,rfl,-,hh,-⟩⟩:=h
 ·rw [h.1]; intro b hb; cases hb
 ·intro b hb e
  have:g=b:=by simpa [Value.ownBlock] using hb
  subst this e;rw [hh] at hX;cases hX;exact hne rfl

structure RowSt (B:Nat) (w:World) (X:Nat) (ar:Option Addr) (nr cr:Nat) (o:Option Addr) (p q:Nat) (own:List Int) (zs:List VR):Prop where
 box:w.heap[X]? = some (.cells #[.slice ar nr cr,.slice o p q] 59)
 rows:w.ownsRow B 98 3 (.slice ar nr cr) nr (vrowF.all zs)
 own:w.ownsRow B 3 1 (.slice o p q) p (cI own)

theorem RowSt.below {B:Nat} {w w':World} {X:Nat} {ar:Option Addr} {nr cr:Nat} {o:Option Addr} {p q:Nat} {own:List Int} {zs:List VR} (h:RowSt B w X ar nr cr o p q own zs) (hb:Below w.heap.size w w'):RowSt B w' X ar nr cr o p q own zs :=
 ⟨za h.box hb,zl h.rows hb,zl h.own hb⟩

theorem RowSt.cell {B:Nat} {w:World} {X:Nat} {ar:Option Addr} {nr cr:Nat} {o:Option Addr} {p q:Nat} {own:List Int} {zs:List VR} (h:RowSt B w X ar nr cr o p q own zs):(w.cell? ⟨X,0,none⟩=some (.slice ar nr cr)∧w.cell? ⟨X,1,none⟩=some (.slice o p q))∧w.frozen? ⟨X,0,none⟩=false∧w.frozen? ⟨X,1,none⟩=false:=zG h.box

theorem RowSt.push {B:Nat} {w w':World} {X:Nat} {ar:Option Addr} {nr cr:Nat} {o:Option Addr} {p q:Nat} {own:List Int} {zs zs':List VR} (h:RowSt B w X ar nr cr o p q own zs) {a':Option Addr} {n' c':Nat} (how:w'.ownsRow B 98 3 (.slice a' n' c') n' (vrowF.all zs')) (hg:w.grownBy w' (Value.slice ar nr cr).ownBlock) :
  (w'.cell? ⟨X,0,none⟩=some (.slice ar nr cr)∧w'.frozen? ⟨X,0,none⟩=false)∧RowSt B (w'.setCell ⟨X,0,none⟩ (.slice a' n' c')) X a' n' c' o p q own zs':=by
 have hbx:=ze h.box hg (fun k hk=>zN h.rows h.box (by decide) k hk);have hown:=zC h.own h.rows (by decide) hg;have hc:=zG hbx;refine ⟨⟨hc.1.1,hc.2.1⟩, ?_,zB how (zm (rb:=X) 0 _) (zN how hbx (by decide)),zB hown (zm (rb:=X) 0 _) (zN hown hbx (by decide))⟩;rw [zu hbx]
 rfl

theorem zeS {x r:VR} {t:List VR} {d:Bool} {zs:List VR} (h:(!d && decide (r.i≤x.i))=false) (hne:(x.i != r.i)=true):zs++[x]++zT t r (d || decide (r.i≤x.i))=zs++zT (x::t) r d:=by
 rw [show zT (x::t) r d=(if !d && decide (r.i≤x.i) then [r] else [])++(if x.i != r.i then [x] else [])++zT t r (d || decide (r.i≤x.i)) by simp [zT]];rw [h,hne]
 simp
theorem zeT {x r:VR} {t:List VR} {d:Bool} {zs:List VR} (h:(!d && decide (r.i≤x.i))=false) (hne:(x.i != r.i)=false):zs++zT t r (d || decide (r.i≤x.i))=zs++zT (x::t) r d:=by
 rw [show zT (x::t) r d=(if !d && decide (r.i≤x.i) then [r] else [])++(if x.i != r.i then [x] else [])++zT t r (d || decide (r.i≤x.i)) by simp [zT]];rw [h,hne]
 simp
theorem zhF {x r:VR} {t:List VR} {d:Bool} {zs:List VR} (h:(!d && decide (r.i≤x.i))=true) (hne:(x.i != r.i)=true):(zs++[r])++[x]++zT t r (d || decide (r.i≤x.i))=zs++zT (x::t) r d:=by
 rw [show zT (x::t) r d=(if !d && decide (r.i≤x.i) then [r] else [])++(if x.i != r.i then [x] else [])++zT t r (d || decide (r.i≤x.i)) by simp [zT]];rw [h,hne]
 simp
theorem zhG {x r:VR} {t:List VR} {d:Bool} {zs:List VR} (h:(!d && decide (r.i≤x.i))=true) (hne:(x.i != r.i)=false):(zs++[r])++zT t r (d || decide (r.i≤x.i))=zs++zT (x::t) r d:=by
 rw [show zT (x::t) r d=(if !d && decide (r.i≤x.i) then [r] else [])++(if x.i != r.i then [x] else [])++zT t r (d || decide (r.i≤x.i)) by simp [zT]];rw [h,hne]
 simp

structure BrOwn (w:World) (base:Nat) (a:Option Addr) (n c:Nat) (fa:Option Addr) (fn fc:Nat) (ra:Option Addr) (rn rc:Nat) (oa:Option Addr) (on oc:Nat) (B:BR):Prop where
 ports:w.ownsRow base 79 8 (.slice a n c) n (ptF.all B.ports)
 f:w.ownsRow base 95 5 (.slice fa fn fc) fn (fentF.all B.f)
 v:VOwn w base ra rn rc oa on oc B.v

theorem BrOwn.row {w:World} {base:Nat} {a:Option Addr} {n c:Nat} {fa:Option Addr} {fn fc:Nat} {ra:Option Addr} {rn rc:Nat} {oa:Option Addr} {on oc:Nat} {B:BR} (h:BrOwn w base a n c fa fn fc ra rn rc oa on oc B):BrRow w a n c fa fn fc ra rn rc oa on oc B :=
 ⟨zD (F:=ptF) h.ports,zD (F:=fentF) h.f,h.v.tab⟩

theorem BrOwn.below {w w':World} {base:Nat} {a:Option Addr} {n c:Nat} {fa:Option Addr} {fn fc:Nat} {ra:Option Addr} {rn rc:Nat} {oa:Option Addr} {on oc:Nat} {B:BR} (h:BrOwn w base a n c fa fn fc ra rn rc oa on oc B) (hb:Below w.heap.size w w'):BrOwn w' base a n c fa fn fc ra rn rc oa on oc B :=
 ⟨zl h.ports hb,zl h.f hb,h.v.below hb⟩

theorem BrOwn.lt {w:World} {base base':Nat} {a:Option Addr} {n c:Nat} {fa:Option Addr} {fn fc:Nat} {ra:Option Addr} {rn rc:Nat} {oa:Option Addr} {on oc:Nat} {B:BR} (h:BrOwn w base a n c fa fn fc ra rn rc oa on oc B) (hle:base'≤base):BrOwn w base' a n c fa fn fc ra rn rc oa on oc B :=
 ⟨zL h.ports hle,zL h.f hle,h.v.lt hle⟩

theorem BrOwn.apart {w w':World} {base:Nat} {a:Option Addr} {n c:Nat} {fa:Option Addr} {fn fc:Nat} {ra:Option Addr} {rn rc:Nat} {oa:Option Addr} {on oc:Nat} {B:BR} (h:BrOwn w base a n c fa fn fc ra rn rc oa on oc B) {row:Option Nat} (hg:w.grownBy w' row) (hlt:∀b,row=some b→b < base):BrOwn w' base a n c fa fn fc ra rn rc oa on oc B :=
 ⟨zw h.ports hg hlt,zw h.f hg hlt,⟨zw h.v.rows hg hlt,zw h.v.own hg hlt,h.v.i64⟩⟩

theorem BrOwn.boxed {w:World} {base:Nat} {a:Option Addr} {n c:Nat} {fa:Option Addr} {fn fc:Nat} {ra:Option Addr} {rn rc:Nat} {oa:Option Addr} {on oc:Nat} {B:BR} (h:BrOwn w base a n c fa fn fc ra rn rc oa on oc B) {X:Nat} {cs:Array Value} (hX:w.heap[X]? = some (.cells cs 61)) (j:Nat) (u:Value):BrOwn (w.setCell ⟨X,j,none⟩ u) base a n c fa fn fc ra rn rc oa on oc B :=
 ⟨zB h.ports (zm (rb:=X) j u) (zN h.ports hX (by decide)),zB h.f (zm (rb:=X) j u) (zN h.f hX (by decide)),
  ⟨zB h.v.rows (zm (rb:=X) j u) (zN h.v.rows hX (by decide)),zB h.v.own (zm (rb:=X) j u) (zN h.v.own hX (by decide)),h.v.i64⟩⟩

theorem BrOwn.newPorts {w w':World} {base:Nat} {a:Option Addr} {n c:Nat} {fa:Option Addr} {fn fc:Nat} {ra:Option Addr} {rn rc:Nat} {oa:Option Addr} {on oc:Nat} {B:BR} (h:BrOwn w base a n c fa fn fc ra rn rc oa on oc B) (hg:w.grownBy w' (Value.slice a n c).ownBlock) {a':Option Addr} {n' c':Nat} {l:List PT} (hp:w'.ownsRow base 79 8 (.slice a' n' c') n' (ptF.all l)) :
  BrOwn w' base a' n' c' fa fn fc ra rn rc oa on oc { B with ports:=l } :=
 ⟨hp,zC h.f h.ports (by decide) hg,⟨zC h.v.rows h.ports (by decide) hg,zC h.v.own h.ports (by decide) hg,h.v.i64⟩⟩

theorem BrOwn.putPorts {w w':World} {base:Nat} {a:Option Addr} {n c:Nat} {fa:Option Addr} {fn fc:Nat} {ra:Option Addr} {rn rc:Nat} {oa:Option Addr} {on oc:Nat} {B:BR} (h:BrOwn w base a n c fa fn fc ra rn rc oa on oc B) (hb:Below w.heap.size w w') {a':Option Addr} {n' c':Nat} {l:List PT} (hp:w'.ownsRow base 79 8 (.slice a' n' c') n' (ptF.all l)):BrOwn w' base a' n' c' fa fn fc ra rn rc oa on oc { B with ports:=l } :=
 ⟨hp,(h.below hb).f,(h.below hb).v⟩

theorem BrOwn.putF {w w':World} {base:Nat} {a:Option Addr} {n c:Nat} {fa:Option Addr} {fn fc:Nat} {ra:Option Addr} {rn rc:Nat} {oa:Option Addr} {on oc:Nat} {B:BR} (h:BrOwn w base a n c fa fn fc ra rn rc oa on oc B) (hb:Below w.heap.size w w') {fa':Option Addr} {fn' fc':Nat} {l:List FE} (hp:w'.ownsRow base 95 5 (.slice fa' fn' fc') fn' (fentF.all l)):BrOwn w' base a n c fa' fn' fc' ra rn rc oa on oc { B with f:=l } :=
 ⟨(h.below hb).ports,hp,(h.below hb).v⟩

theorem BrOwn.putV {w w':World} {base:Nat} {a:Option Addr} {n c:Nat} {fa:Option Addr} {fn fc:Nat} {ra:Option Addr} {rn rc:Nat} {oa:Option Addr} {on oc:Nat} {B:BR} (h:BrOwn w base a n c fa fn fc ra rn rc oa on oc B) (hb:Below w.heap.size w w') {ra':Option Addr} {rn' rc':Nat} {oa':Option Addr} {on' oc':Nat} {v:VT} (hp:VOwn w' base ra' rn' rc' oa' on' oc' v):BrOwn w' base a n c fa fn fc ra' rn' rc' oa' on' oc' { B with v:=v } :=
 ⟨(h.below hb).ports,(h.below hb).f,hp⟩

theorem box11 {w:World} {g:Nat} {cs:Array Value} {T:TypeId} (h:w.heap[g]? = some (.cells cs T)) (j:Nat) (u:Value):(w.setCell ⟨g,j,none⟩ u).heap[g]? = some (.cells (cs.setIfInBounds j u) T):=zu (j:=j) h u

def zbr (ports:Int):VT:=if (decide (1≤ports) && decide (ports≤6))=true then ⟨[⟨1,allOf ports.toNat,allOf ports.toNat⟩],List.replicate ports.toNat 1⟩ else ⟨[],[]⟩

theorem zfO {ports:Int} (h:(decide (1≤ports) && decide (ports≤6))=false):zbr ports=⟨[],[]⟩:=by
 unfold zbr;rw [h,if_neg Bool.false_ne_true]
theorem zb3 {p:Nat} (h:(decide (1≤(p:Int)) && decide ((p:Int)≤6))=true):zbr p=⟨[⟨1,allOf p,allOf p⟩],List.replicate p 1⟩:=by
 unfold zbr;rw [if_pos h,Int.toNat_natCast]

theorem zh8 (k:Nat):I64s (List.replicate k 1):=by
 intro z hz;rw [List.eq_of_mem_replicate hz];exact ⟨by decide,by decide⟩

theorem zdq {α:Type} (F:Flat α) {w:World} {g base:Nat} {x:α} {cs:Array Value} {T:TypeId} (h:w.heap[g]? = some (.cells cs T)) (hc:cs.toList=F.cs x) (hb:base≤g):w.ownsRow base T F.k (.slice (some ⟨g,0,none⟩) 1 1) 1 (F.all [x]):=by
 have hl:cs.toList.length=F.k:=by rw [hc,F.len]
 refine ⟨by rw [F.all_length]; rfl,.inr ⟨g,1,cs,rfl,hb,h,Nat.le_refl _,by unfold maxLen; omega, ?_, ?_⟩⟩
 ·have:=hl
  simp at this
  rw [this,Nat.one_mul]
 ·rw [F.all_one,Nat.one_mul,← hc,← hl,List.take_length]

theorem zgl (w:World) (base:Nat):VOwn w base none 0 0 none 0 0 ⟨[],[]⟩:=⟨World.ownsRow_nil _ _ _ _,World.ownsRow_nil _ _ _ _,(by intro z hz; cases hz)⟩

theorem zcG (ports:Int) (w:World) :
  Calls Tryz.prog 58 #[.int .i64 ports] w fun e w'=>∃a n c o p q,e=.returned (.agg #[.slice a n c,.slice o p q])∧VOwn w' w.heap.size a n c o p q (zbr ports)∧Below w.heap.size w w':=by
 generalize hw1:w.alloc (Obj.cells #[Value.slice none 0 0,Value.slice none 0 0] 59)=w1;have b01:=zb hw1;have k0:=zk hw1;have z1:Hid (w.heap.size < w1.heap.size):=hide (by rw [← hw1]; simp);cases hin:(decide (1≤ports) && decide (ports≤6))
 ·rw [zfO hin];have HIN:=hide hin;clear hin;obtain ⟨⟨g0,g1⟩,f0,f1⟩:=zG k0;have HB:=hide (zj (zj b01 (Nat.le_refl _) 0 (.slice none 0 0)) (Nat.le_refl _) 1 (.slice none 0 0));go_enter Tryz.func58,Tryz.ntmps58;go_wp2_with (refine (zh ports 1 6 _).mono ?_; rintro r w2 ⟨rfl,e2⟩; obtain rfl:=e2.symm; rw [HIN.out])
  exact bodyPost_ret (v:=.agg #[.slice none 0 0,.slice none 0 0]) (by simp [results,Tryz.results58,go_sem, *]) rfl ⟨_,_,_,_,_,_,rfl,zgl _ _,HB.out⟩
 ·obtain ⟨p,rfl⟩:∃p:Nat,ports=(p:Int):=⟨ports.toNat,by simp at hin; omega⟩;rw [zb3 hin];have HIN:=hide hin;have hp:1≤(p:Int)∧(p:Int)≤6:=by simpa using hin
  clear hin;generalize hw2:w1.alloc (Obj.cells #[Value.int .i64 1,Value.int .i64 (allOf p),Value.int .i64 (allOf p)] 98)=w2;have b12:=zb hw2;have k1:=zk hw2;generalize hwz:w2.alloc (Obj.cells #[Value.slice none 0 0,Value.slice none 0 0] 59)=wz;have b2z:=zb hwz;have kz:=zk hwz;obtain ⟨⟨j0,j1⟩,j2,j3⟩:=zG kz;generalize hw3:(wz.setCell ⟨w2.heap.size,0,none⟩ (Value.slice (some ⟨w1.heap.size,0,none⟩) 1 1)).setCell ⟨w2.heap.size,1,none⟩ (Value.slice none 0 0)=w3;have b23:Below w2.heap.size w2 w3:=by subst hw3; exact zj (zj b2z (Nat.le_refl _) _ _) (Nat.le_refl _) _ _
  have k2:w3.heap[w2.heap.size]? = some (.cells #[.slice (some ⟨w1.heap.size,0,none⟩) 1 1,.slice none 0 0] 59):=by
   have h1:=zu (j:=0) kz (Value.slice (some ⟨w1.heap.size,0,none⟩) 1 1);have h2:=zu (j:=1) h1 (Value.slice none 0 0);rw [hw3] at h2;exact h2
  have hR:w3.ownsRow w1.heap.size 98 3 (.slice (some ⟨w1.heap.size,0,none⟩) 1 1) 1 (vrowF.all [⟨1,allOf p,allOf p⟩]):=zl (zdq vrowF (x:=⟨1,allOf p,allOf p⟩) k1 rfl (Nat.le_refl _)) b23;have b13:=zc b12 b23;have hall:=zhQ p hp.1 hp.2;have X2:Hid (w1.heap.size≤w2.heap.size):=hide b12.size;have hwp:IntKind.u64.wrap (p:Int)=(p:Int):=by rw [IntKind.wrap_u64]; omega
  go_enter Tryz.func58,Tryz.ntmps58;go_wp2_with (refine (zh (p:Int) 1 6 _).mono ?_; rintro r wy ⟨rfl,ey⟩; obtain rfl:=ey.symm; rw [HIN.out])
  go_wp2;rw [hall];clear j0 j1 j2 j3
  go_loopw [5] (fun i wr=>∃(k:Nat) (o:Option Addr) (q:Nat),k≤p∧i=.int .i64 k∧wr.heap[w2.heap.size]? = some (.cells #[.slice (some ⟨w1.heap.size,0,none⟩) 1 1,.slice o k q] 59)∧wr.ownsRow w1.heap.size 98 3 (.slice (some ⟨w1.heap.size,0,none⟩) 1 1) 1 (vrowF.all [⟨1,allOf p,allOf p⟩])∧wr.ownsRow w1.heap.size 3 1 (.slice o k q) k (intF.all (List.replicate k 1))∧Below w1.heap.size w1 wr) (fun i _=>p - (intOf i).toNat)
  case atStart=>exact ⟨0,none,0,Nat.zero_le _,rfl,k2,hR,World.ownsRow_nil _ _ _ _,b13⟩
  case round =>
   obtain ⟨k,o,q,hk,rfl,kX,hRr,hI,hb⟩:=hrel;by_cases hlt:k < p
   ·obtain ⟨⟨x0,x1⟩,-⟩:=zG kX;generalize hwa:wr.alloc (Obj.cells #[Value.int .i64 1] 3)=wa;have bra:=zb hwa;have ka:=zk hwa;have gone:GRow intF wa (some ⟨wr.heap.size,0,none⟩) 1 1 [1]:=zD (F:=intF) (zdq intF (x:=1) (base:=0) ka rfl (Nat.zero_le _));have hba:=zc hb bra;have HR2:=hide (zl hRr bra);have hI2:=zl hI bra;have HI0:=hide hI2;have HKX:=hide (za kX bra);have HBA:=hide hba;clear hRr hI kX hb hba k2 hR;go_wp2_with (at_builtin; refine zE (F:=intF) _ rfl _ _ 24 3 rfl w1.heap.size Tryz.underlying24 Tryz.infoI64 rfl (by decide) _ k (List.replicate k 1) rfl hI2 (some ⟨wr.heap.size,0,none⟩) 1 1 [1] rfl gone (by omega) HBA.out.size ?_)
    intro a7 c7 w7 how hr hgr hb7;have hown2:=zC HR2.out HI0.out (by decide) hgr;have kX7:=ze HKX.out hgr (fun j hj=>zN HI0.out HKX.out (by decide) j hj);obtain ⟨⟨y0,y1⟩,f0,f1⟩:=zG kX7;have HO:Hid ((w7.setCell ⟨w2.heap.size,1,none⟩ (.slice a7 (k+1) c7)).ownsRow w1.heap.size 3 1 (.slice a7 (k+1) c7) (k+1) (intF.all (List.replicate (k+1) 1))):=hide (by
     rw [List.replicate_succ'];exact zB how (zm (rb:=w2.heap.size) 1 _) (zN how kX7 (by decide)))
    have HR3:=hide (zB hown2 (zm (rb:=w2.heap.size) 1 (.slice a7 (k+1) c7)) (zN hown2 kX7 (by decide)));have HK3:Hid ((w7.setCell ⟨w2.heap.size,1,none⟩ (.slice a7 (k+1) c7)).heap[w2.heap.size]? = some (.cells #[.slice (some ⟨w1.heap.size,0,none⟩) 1 1,.slice a7 (k+1) c7] 59)):=hide (ziZ kX7 _);have HB3:=hide (zj (HBA.out.trans hb7) X2.out 1 (.slice a7 (k+1) c7));clear how hr hgr hb7 hown2 hI2 x0 x1 gone ka;go_wp2
    go_roundw
    case rel=>exact ⟨k+1,a7,c7,by omega,by go_num,HK3.out,HR3.out,HO.out,HB3.out⟩
    case measure=>simp [intOf]; omega
   ·have hkp:k=p:=by omega
    subst hkp;obtain ⟨⟨x0,x1⟩,-⟩:=zG kX;obtain ⟨⟨g0,g1⟩,f0,f1⟩:=zG (za k0 hb);have hV:VOwn wr w1.heap.size (some ⟨w1.heap.size,0,none⟩) 1 1 o k q ⟨[⟨1,allOf k,allOf k⟩],List.replicate k 1⟩:=⟨hRr,(by rw [← zaF]; exact hI),zh8 _⟩;have HO:=hide ((hV.set2 (g:=w.heap.size) z1.out (.slice (some ⟨w1.heap.size,0,none⟩) 1 1) (.slice o k q)).lt (base':=w.heap.size) b01.size);have HB:=hide (zj (zj (zc b01 hb) (Nat.le_refl _) 0 (.slice (some ⟨w1.heap.size,0,none⟩) 1 1)) (Nat.le_refl _) 1 (.slice o k q));clear hV hRr hI hb k2 hR;go_wp2;exact bodyPost_ret (v:=.agg #[.slice (some ⟨w1.heap.size,0,none⟩) 1 1,.slice o k q]) (by simp [results,Tryz.results58,go_sem, *]) rfl ⟨_,_,_,_,_,_,rfl,HO.out,HB.out⟩

theorem zja {l:List FE} {t m:Int} {k:Nat} {x:FE} (h:∀i y,i < k→l[i]? = some y→both y t m=false) (hx:l[k]? = some x) (hb:both x t m=true):atF l t m=k:=by
 have hk:=(List.getElem?_eq_some_iff.1 hx).1
 have:l.findIdx? (fun e=>both e t m)=some k:=by
  rw [List.findIdx?_eq_some_iff_getElem];refine ⟨hk, ?_,fun j hj => ?_⟩
  ·rw [List.getElem?_eq_getElem hk] at hx;cases hx;exact hb
  ·have:=h j l[j] hj (List.getElem?_eq_getElem (by omega))
   simp [this]
 unfold atF;rw [this]

theorem zkg {l:List FE} {t m:Int} (h:∀i y,i < l.length→l[i]? = some y→both y t m=false):atF l t m = -1:=by
 have:l.findIdx? (fun e=>both e t m)=none:=by
  rw [List.findIdx?_eq_none_iff];intro x hx;obtain ⟨i,hi,rfl⟩:=List.getElem_of_mem hx;exact h i _ hi (List.getElem?_eq_getElem hi)
 unfold atF;rw [this]

theorem zjK {l:List FE} {t m:Int} {k:Nat} {x:FE} (h:∀j y,j < k→l[j]? = some y→both y t m=false) (hx:l[k]? = some x) (hb:both x t m=false):∀j y,j < k+1→l[j]? = some y→both y t m=false:=by
 intro j y hj hy;by_cases e:j=k
 ·subst e;rw [hx] at hy;cases hy;exact hb
 ·exact h j y (by omega) hy

theorem za4 (ao:Option Addr) (n cap:Nat) (l:List FE) (t m:Int) (w:World) (h:GRow fentF w ao n cap l) :
  Calls Tryz.prog 148 #[.slice ao n cap,.int .i64 t,.int .i64 m] w fun r w'=>r=.returned (.int .i64 (atF l t m))∧w'=w:=by
 have hle:=h.le;have htop:=h.top;unfold maxLen at htop;have hsz:=h.size;go_enter Tryz.func148,Tryz.ntmps148;go_wp2
 go_loop [7] (fun i=>∃k:Nat,k≤n∧i=.int .i64 k∧∀j y,j < k→l[j]? = some y→both y t m=false) (fun i=>n - (intOf i).toNat)
 case atStart=>exact ⟨0,Nat.zero_le _,rfl,fun j y hj=>by omega⟩
 case round =>
  obtain ⟨k,hk,rfl,hno⟩:=hrel;by_cases hlt:k < n
  ·obtain ⟨x,b,off,hx,rfl,c0,c1,-⟩:=zbH h k hlt;cases t1:(x.t == t)
   ·have HO:=hide (zjK hno hx (by unfold both; rw [t1]; rfl));clear hno;go_wp2
    go_round
    case rel=>exact ⟨k+1,by omega,by go_num,HO.out⟩
    case measure=>simp [intOf]; omega
   ·cases t2:(x.m == m)
    ·have HO:=hide (zjK hno hx (by unfold both; rw [t1,t2]; rfl));clear hno;go_wp2
     go_round
     case rel=>exact ⟨k+1,by omega,by go_num,HO.out⟩
     case measure=>simp [intOf]; omega
    ·have HF:=hide (zja hno hx (by unfold both; rw [t1,t2]; rfl));clear hno;go_wp2;go_ret;exact ⟨(by rw [HF.out]; rfl),rfl⟩
  ·have hkn:k=n:=by omega
   have HF:=hide (zkg (l:=l) (t:=t) (m:=m) (fun i y hi hy=>hno i y (by omega) hy));clear hno;subst hkn;go_wp2;go_ret;exact ⟨(by rw [HF.out]; rfl),rfl⟩

theorem zkp:(Tryz.prog.info? 95).map (fun i=>(i.zero,i.size,i.bytes))=some (some (.agg #[.int .i64 0,.int .i64 0,.int .i64 0,.int .i64 0,.bool false]),fentF.k,40):=by kernel_rfl

theorem zah (w:World) {ops:Array Oper} {rest:List Oper} {o:Oper} {a:Act} {Q:Exit→Act→World→Prop} (hgd:o.guard=none)
  (s x:Operand) (ho:o.op=Op.call { callee:=Callee.builtin Builtin.append,args:=#[s,x],argTypes:=#[56,56] }) (base:Nat)
  (v:Value) (n:Nat) (xs:List FE) (hs:a.eval s=v) (hown:w.ownsRow base 95 5 v n (fentF.all xs)) (ao:Option Addr) (m c:Nat) (zs:List FE)
  (hx:a.eval x=.slice ao m c) (hrow:GRow fentF w ao m c zs) (hsm:n+m≤137438953472) (hbase:base≤w.heap.size)
  (h:∀ao' cap' w',w'.ownsRow base 95 5 (.slice ao' (n+m) cap') (n+m) (fentF.all (xs++zs))→GRow fentF w' ao' (n+m) cap' (xs++zs)→w.grownBy w' v.ownBlock→Below base w w'→wpList Tryz.prog ops Q rest (a.put o.dst (.slice ao' (n+m) cap')) w') :
  wpList Tryz.prog ops Q (o::rest) a w :=
 zE (F:=fentF) w hgd s x 56 95 ho base Tryz.underlying56 zkp rfl (by decide) v n xs hs hown ao m c zs hx hrow hsm hbase h

theorem zbW {w w':World} {B i:Nat} {o:Obj} (h:w.heap[i]? = some o) (hb:Below B w w') (hi:i < B):w'.heap[i]? = some o:=by rw [hb.block i hi]; exact h

theorem zaK (ao:Option Addr) (n cap:Nat) (l:List FE) (w:World) (h:GRow fentF w ao n cap l) (hn:n≤16777216) :
  Calls Tryz.prog 84 #[.slice ao n cap] w fun r w'=>∃ao' cap',r=.returned (.slice ao' n cap')∧w'.ownsRow w.heap.size 95 5 (.slice ao' n cap') n (fentF.all l)∧GRow fentF w' ao' n cap' l∧Below w.heap.size w w':=by
 go_enter Tryz.func84,Tryz.ntmps84;go_wp2_with (at_builtin; refine zah _ rfl _ _ rfl w.heap.size _ 0 [] rfl (zaE fentF w _ 95 w.heap.size (zt w _) (Nat.le_refl _)) ao n cap l rfl (h.below (zg _ _)) (by omega) (by simp) ?_)
 intro ao' cap' w' how hr hgr hb;have how:w'.ownsRow w.heap.size 95 5 (.slice ao' n cap') n (fentF.all l):=by simpa using how
 have hr:GRow fentF w' ao' n cap' l:=by simpa using hr
 have HO:=hide how;have HB:=hide ((zg w _).trans hb);clear how hgr hb;go_wp2;go_ret;exact ⟨ao',cap',(by simp),HO.out,hr,HB.out⟩

theorem zgV {e x:FE} {zs r:List FE} (ha:ahead x e.t e.m=false) (hb:both x e.t e.m=false):(zs++[e])++[x]++putGo e true r=zs++putGo e false (x::r):=by
 rw [show putGo e false (x::r)=e::x::putGo e true r by simp [putGo,ha,hb]]
 simp
theorem ziU {e x:FE} {zs r:List FE} (ha:ahead x e.t e.m=false) (hb:both x e.t e.m=true):(zs++[e])++putGo e true r=zs++putGo e false (x::r):=by
 rw [show putGo e false (x::r)=e::putGo e true r by simp [putGo,ha,hb]]
 simp
theorem zc6 {e x:FE} {d:Bool} {zs r:List FE} (ha:d=true∨ahead x e.t e.m=true) (hb:both x e.t e.m=false):zs++[x]++putGo e d r=zs++putGo e d (x::r):=by
 have:(!d && !ahead x e.t e.m)=false:=by rcases ha with h | h <;> simp [h]
 rw [show putGo e d (x::r)=x::putGo e d r by rw [putGo,this,hb]; rfl]
 simp
theorem zfD {e x:FE} {d:Bool} {zs r:List FE} (ha:d=true∨ahead x e.t e.m=true) (hb:both x e.t e.m=true):zs++putGo e d r=zs++putGo e d (x::r):=by
 have:(!d && !ahead x e.t e.m)=false:=by rcases ha with h | h <;> simp [h]
 rw [show putGo e d (x::r)=putGo e d r by rw [putGo,this,hb]; rfl]

theorem zbj {l:List FE} {k:Nat} {x:FE} (h:l[k]? = some x):l.drop k=x::l.drop (k+1):=by
 have hk:=(List.getElem?_eq_some_iff.1 h).1;rw [List.drop_eq_getElem_cons hk];rw [List.getElem?_eq_getElem hk] at h;cases h
 rfl

theorem ziF {a c:World} {row:Option Nat} (h:a.grownBy c row):a.grownBy c.drew row:=⟨h.os,h.tape,h.output,h.size,h.block⟩

theorem zhY {w:World} {i:Nat} {o:Obj} (h:w.heap[i]? = some o):w.drew.heap[i]? = some o:=h

theorem zcj {α:Type} {l:List α} {k:Nat} {x y:α} (hx:l[k]? = some x):∃pre post,l=pre++x::post∧k=pre.length∧pre++y::post=l.set k y:=by
 obtain ⟨hk,rfl⟩:=List.getElem?_eq_some_iff.1 hx;refine ⟨l.take k,l.drop (k+1), ?_, ?_, ?_⟩
 ·rw [← List.drop_eq_getElem_cons hk,List.take_append_drop]
 ·rw [List.length_take]; omega
 ·rw [List.set_eq_take_append_cons_drop,if_pos hk]

theorem zkw {w:World} {base g n cap k:Nat} {l:List PT} {x:PT} (v:VD) (h:w.ownsRow base 79 8 (.slice (some ⟨g,0,none⟩) n cap) n (ptF.all (l))) (hx:l[k]? = some x) :
  ((((((w.setCell ⟨g,k*8+2,none⟩ (.bool true)).setCell ⟨g,k*8+3,none⟩ (.int .i64 v.r)).setCell ⟨g,k*8+4,none⟩ (.int .i64 v.c)).setCell ⟨g,k*8+5,none⟩ (.int .i64 v.h)).setCell ⟨g,k*8+6,none⟩ (.int .i64 v.b)).setCell ⟨g,k*8+7,none⟩ (.int .i64 v.p)).ownsRow base 79 8 (.slice (some ⟨g,0,none⟩) n cap) n (ptF.all (l.set k ⟨x.up,x.k,true,v⟩)):=by
 obtain ⟨pre,post,e0,rfl,e1⟩:=zcj (y:=(⟨x.up,x.k,true,v⟩:PT)) hx;rw [e0] at h;have R0:=zK (F:=ptF) (x':=⟨x.up,x.k,true,⟨x.v.r,x.v.c,x.v.h,x.v.b,x.v.p⟩⟩) h 2 (.bool true) (by decide) rfl;have R1:=zK (F:=ptF) (x':=⟨x.up,x.k,true,⟨v.r,x.v.c,x.v.h,x.v.b,x.v.p⟩⟩) R0 3 (.int .i64 v.r) (by decide) rfl;have R2:=zK (F:=ptF) (x':=⟨x.up,x.k,true,⟨v.r,v.c,x.v.h,x.v.b,x.v.p⟩⟩) R1 4 (.int .i64 v.c) (by decide) rfl;have R3:=zK (F:=ptF) (x':=⟨x.up,x.k,true,⟨v.r,v.c,v.h,x.v.b,x.v.p⟩⟩) R2 5 (.int .i64 v.h) (by decide) rfl;have R4:=zK (F:=ptF) (x':=⟨x.up,x.k,true,⟨v.r,v.c,v.h,v.b,x.v.p⟩⟩) R3 6 (.int .i64 v.b) (by decide) rfl;have R5:=zK (F:=ptF) (x':=⟨x.up,x.k,true,⟨v.r,v.c,v.h,v.b,v.p⟩⟩) R4 7 (.int .i64 v.p) (by decide) rfl;rw [e1] at R5;exact R5

theorem zfe {w:World} {g k:Nat} (v:VD):w.grownBy ((((((w.setCell ⟨g,k*8+2,none⟩ (.bool true)).setCell ⟨g,k*8+3,none⟩ (.int .i64 v.r)).setCell ⟨g,k*8+4,none⟩ (.int .i64 v.c)).setCell ⟨g,k*8+5,none⟩ (.int .i64 v.h)).setCell ⟨g,k*8+6,none⟩ (.int .i64 v.b)).setCell ⟨g,k*8+7,none⟩ (.int .i64 v.p)) (some g) :=
 zM (zM (zM (zM (zM (zm _ _) (zm _ _)) (zm _ _)) (zm _ _)) (zm _ _)) (zm _ _)

theorem zh5 {w:World} {base g n cap k:Nat} {l:List PT} {x:PT} (up:Bool) (h:w.ownsRow base 79 8 (.slice (some ⟨g,0,none⟩) n cap) n (ptF.all (l))) (hx:l[k]? = some x) :
  ((((((((w.setCell ⟨g,k*8,none⟩ (.bool up)).setCell ⟨g,k*8+1,none⟩ (.int .i64 x.k)).setCell ⟨g,k*8+2,none⟩ (.bool false)).setCell ⟨g,k*8+3,none⟩ (.int .i64 0)).setCell ⟨g,k*8+4,none⟩ (.int .i64 0)).setCell ⟨g,k*8+5,none⟩ (.int .i64 0)).setCell ⟨g,k*8+6,none⟩ (.int .i64 0)).setCell ⟨g,k*8+7,none⟩ (.int .i64 0)).ownsRow base 79 8 (.slice (some ⟨g,0,none⟩) n cap) n (ptF.all (l.set k ⟨up,x.k,false,⟨0,0,0,0,0⟩⟩)):=by
 obtain ⟨pre,post,e0,rfl,e1⟩:=zcj (y:=(⟨up,x.k,false,⟨0,0,0,0,0⟩⟩:PT)) hx;rw [e0] at h;have R:=zlS (y:=⟨up,x.k,false,⟨0,0,0,0,0⟩⟩) h;rw [e1] at R;exact R

theorem zbO {w:World} {base k:Nat} {e:TypeId} {a:Option Addr} {n c:Nat} {ys:List Value} (h:w.ownsRow base e k (.slice a n c) n ys) (hn:0 < n):∃g,a=some ⟨g,0,none⟩:=by
 rcases h.2 with ⟨e1,h0⟩ | ⟨g,cap',cur,e1,-⟩
 ·cases e1;omega
 ·cases e1;exact ⟨g,rfl⟩

theorem zdJ {B:BR} (h:zz B=true):B.ports.length≤6∧0≤B.vers∧B.vers≤1000000∧0≤B.ticks∧B.ticks≤1000000:=by
 obtain ⟨-,-,-,h4,-,-,h7,-,-,-,h11⟩:=zad h;rw [zh2] at h7 h11;unfold in3 at h4
 simp at h4
 omega

theorem zgi {B:BR} {n:Nat} {port:Int} (hn:B.ports.length=n) (h:za9 B port=true):∃k:Nat,port=(k:Int)∧k < n∧∃x,B.ports[k]? = some x:=by
 unfold za9 at h;simp only [Bool.and_eq_true,decide_eq_true_eq] at h;obtain ⟨-,h0,h1⟩:=h;refine ⟨port.toNat,by omega,by omega,B.ports[port.toNat]'(by omega),List.getElem?_eq_getElem (by omega)⟩

theorem zkf (l:List FE):(ageF l).length≤l.length:=List.length_filterMap_le _ _

theorem zjf (ao:Option Addr) (n cap:Nat) (l:List FE) (w:World) (h:GRow fentF w ao n cap l) (hn:n≤16777216) :
  Calls Tryz.prog 104 #[.slice ao n cap] w fun r w'=>∃ao' cap',r=.returned (.slice ao' n cap')∧w'.ownsRow w.heap.size 95 5 (.slice ao' n cap') n (fentF.all l)∧GRow fentF w' ao' n cap' l∧Below w.heap.size w w':=by
 cases ao with
 | none =>
  have hc0:=h.nil rfl;have hn0:n=0:=by have:=h.le; omega
  subst hc0 hn0;have hl:l=[]:=List.eq_nil_of_length_eq_zero h.size;subst hl;have heq:∀W,(binOp .eql 56 (.slice none 0 0) (.slice none 0 0)).run Tryz.prog W=.ok (.bool true) W:=fun _=>by kernel_rfl
  go_enter Tryz.func104,Tryz.ntmps104;go_wp2;go_ret;exact ⟨none,0,rfl,World.ownsRow_nil _ _ _ _,zc2 _ _,Below.refl _ _⟩
 | some a =>
  have heq:∀W,(binOp .eql 56 (.slice (some a) n cap) (.slice none 0 0)).run Tryz.prog W=.ok (.bool false) W:=fun _=>by kernel_rfl
  go_enter Tryz.func104,Tryz.ntmps104;go_wp2_with (at_builtin; refine zah _ rfl _ _ rfl w.heap.size _ 0 [] rfl (zaE fentF w _ 95 w.heap.size (zt w _) (Nat.le_refl _)) (some a) n cap l rfl (h.below (zg _ _)) (by omega) (by simp) ?_)
  intro ao' cap' w' how hr hgr hb;have how:w'.ownsRow w.heap.size 95 5 (.slice ao' n cap') n (fentF.all l):=by simpa using how
  have hr:GRow fentF w' ao' n cap' l:=by simpa using hr
  have HO:=hide how;have HB:=hide ((zg w _).trans hb);clear how hgr hb;go_wp2;go_ret;exact ⟨ao',cap',(by simp),HO.out,hr,HB.out⟩

theorem ziy (ao:Option Addr) (n cap:Nat) (l:List Int) (w:World) (h:GRow intF w ao n cap l) (hn:n≤16777216) :
  Calls Tryz.prog 136 #[.slice ao n cap] w fun r w'=>∃ao' cap',r=.returned (.slice ao' n cap')∧w'.ownsRow w.heap.size 3 1 (.slice ao' n cap') n (intF.all l)∧Below w.heap.size w w':=by
 cases ao with
 | none =>
  have hc0:=h.nil rfl;have hn0:n=0:=by have:=h.le; omega
  subst hc0 hn0;have hl:l=[]:=List.eq_nil_of_length_eq_zero h.size;subst hl;have heq:∀W,(binOp .eql 24 (.slice none 0 0) (.slice none 0 0)).run Tryz.prog W=.ok (.bool true) W:=fun _=>by kernel_rfl
  go_enter Tryz.func136,Tryz.ntmps136;go_wp2;go_ret;exact ⟨none,0,rfl,World.ownsRow_nil _ _ _ _,Below.refl _ _⟩
 | some a =>
  have heq:∀W,(binOp .eql 24 (.slice (some a) n cap) (.slice none 0 0)).run Tryz.prog W=.ok (.bool false) W:=fun _=>by kernel_rfl
  go_enter Tryz.func136,Tryz.ntmps136;go_wp2_with (at_builtin; refine zE (F:=intF) _ rfl _ _ 24 3 rfl w.heap.size Tryz.underlying24 Tryz.infoI64 rfl (by decide) _ 0 [] rfl (zaE intF w _ 3 w.heap.size (zt w _) (Nat.le_refl _)) (some a) n cap l rfl (h.below (zg _ _)) (by omega) (by simp) ?_)
  intro ao' cap' w' how hr hgr hb;have how:w'.ownsRow w.heap.size 3 1 (.slice ao' n cap') n (intF.all l):=by
   (try simp only [Nat.zero_add,List.nil_append] at how);exact how
  have HO:=hide how;have HB:=hide ((zg w _).trans hb);clear how hgr hb hr;go_wp2;go_ret;exact ⟨ao',cap',(by simp),HO.out,HB.out⟩

end Go.Proofs.YtkcoehmpnkdinaaGreat
