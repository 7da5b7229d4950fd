/-
  Packed: VtabCopy VtabOr VtabSet VtabRowM BrOwn VtabNewS FdbPutS CloneI VtabDropM ZerosNil VtabDrop.
-/
import Derived.Test.YtcpdkcdfnpcemaaGreatPRFdbOkS
import Derived.Test.YtcpdkcdfnpcemaaGreatPRK04
import Derived.Test.YtcpdkcdfnpcemaaGreatPRVtabOkS
import Derived.Lib.AppendZeros
namespace Go.Proofs.YtcpdkcdfnpcemaaGreat
set_option maxRecDepth 100000
set_option maxHeartbeats 16000000
open Go.RowKit

def intF:Flat Int where
 k:=1
 cs:=fun x=>[.int .i64 x]
 len:=fun _=>rfl
 pos:=by decide
 one:=fun _ v hv=>by
  simp only [List.mem_cons,List.not_mem_nil,or_false] at hv;subst hv
  rfl

theorem zF:∀(l:List Int),intF.all l=cI l
 | []=>rfl
 | x::l=>by
  have:=zF l
  rw [Flat.all_cons,this]
  rfl

theorem IRow.flat {w:World} {ao:Option Addr} {n c:Nat} {l:List Int} (h:IRow w ao n c l):GRow intF w ao n c l where
 size:=h.size
 le:=h.le
 top:=h.top
 nil:=h.nil
 cell:=by
  rcases h.cell with h0 | ⟨b,off,ha,hc⟩
  ·exact .inl h0
  ·refine .inr ⟨b,off,ha,fun i x hi j v hv => ?_⟩;have hl:=(List.getElem?_eq_some_iff.1 hi).1;have hs:=h.size
   have:=hc i (by omega)
   rw [List.getD_eq_getElem?_getD,hi] at this
   match j,hv with
   | 0,hv =>
    cases hv
    show w.cell? ⟨b,off+i*1+0,none⟩=_
    rw [Nat.mul_one,Nat.add_zero];exact this
   | j+1,hv=>simp [intF] at hv

theorem zaN:(Tryz.prog.info? 119).map (fun i=>(i.zero,i.size,i.bytes))=some (some (.agg #[.int .i64 0,.int .i64 0,.int .i64 0]),vrowF.k,24):=by kernel_rfl

theorem zY {w w':World} {base k:Nat} {e:TypeId} {v:Value} {n:Nat} {xs:List Value} (h:w.ownsRow base e k v n xs) {base2 k2:Nat} {e2:TypeId} {v2:Value} {n2:Nat} {xs2:List Value} (h2:w.ownsRow base2 e2 k2 v2 n2 xs2) (hne:(e:Nat)≠e2) (hg:w.grownBy w' v2.ownBlock):w'.ownsRow base e k v n xs:=by
 refine h.kept hg ?_;obtain ⟨-,h | ⟨g,cap,cur,e1,-,hh,-⟩⟩:=h
 ·rw [h.1]; exact .inl rfl
 ·obtain ⟨-,h2 | ⟨g2,cap2,cur2,e2',-,hh2,-⟩⟩:=h2
  ·rw [h2.1]; exact .inr (by rw [e1]; intro hc; cases hc)
  ·refine .inr (fun hc => ?_);rw [e1,e2'] at hc;have hgg:g=g2:=by simpa [Value.ownBlock] using hc
   subst hgg;rw [hh] at hh2;cases hh2;exact hne rfl

structure VOwn (w:World) (base:Nat) (a:Option Addr) (n c:Nat) (o:Option Addr) (p q:Nat) (v:VT):Prop where
 rows:w.ownsRow base 119 3 (.slice a n c) n (vrowF.all v.rows)
 own:w.ownsRow base 3 1 (.slice o p q) p (cI v.own)
 i64:I64s v.own

theorem VOwn.tab {w:World} {base:Nat} {a:Option Addr} {n c:Nat} {o:Option Addr} {p q:Nat} {v:VT} (h:VOwn w base a n c o p q v):VTab w a n c o p q v:=⟨zE (F:=vrowF) h.rows,zV h.own h.i64⟩

theorem zav (a:Option Addr) (n c:Nat) (o:Option Addr) (p q:Nat) (v:VT) (w:World) (h:VTab w a n c o p q v) (hn:n≤16777216) (hp:p≤16777216) :
  Calls Tryz.prog 125 #[.agg #[.slice a n c,.slice o p q]] w fun r w'=>∃a' c' o' q',r=.returned (.agg #[.slice a' n c',.slice o' p q'])∧VOwn w' w.heap.size a' n c' o' p q' v∧Below w.heap.size w w':=by
 generalize hw1:w.alloc (Obj.cells #[Value.slice a n c,Value.slice o p q] 29)=w1;generalize hw2:w1.alloc (Obj.cells #[Value.slice none 0 0,Value.slice none 0 0] 29)=w2;have s1:w1.heap.size=w.heap.size+1:=by subst hw1; simp
 have s2:w2.heap.size=w.heap.size+1+1:=by subst hw2; simp [s1]
 have hk1:=zk hw2;have b01:=zb hw1;have vb:Below w1.heap.size w1 w2.drew:=by subst hw2; exact zr (zh _ _)
 have bw:Below w.heap.size w w2:=by subst hw2; exact zd b01 (zh _ _)
 have vv:Below w2.heap.size w2 w2.drew:=zr (Below.refl _ _);have h12:w1.heap.size≤w2.heap.size:=by omega
 have S1:=hide s1;have S2:=hide s2;have H12:=hide h12;have HL:Hid (∀b,some w1.heap.size=some b→b < w2.heap.size):=hide (by intro b hb; cases hb; omega);clear s1 s2 h12;go_enter Tryz.func125,Tryz.ntmps125;go_wp2_with fail
 refine wp_region_held_drew (S:=(fun W=>zcc W w.heap.size 0 (.slice a n c)∧zcc W w.heap.size 1 (.slice o p q))) (by kernel_rfl) (zP hw1 vb) (fun hHeld => ?_)
 repeat' first
 |
  with_reducible refine kLa ?_
  first
  |
   refine kLf 1 ?_;refine kK 1 ?_
  |
   refine kLf 2 ?_;refine kK 2 ?_
  |
   refine kLf 5 ?_;refine kK 5 ?_
  |
   refine kLf 6 ?_;refine kK 6 ?_
  |
   refine kLf 8 ?_;refine kK 8 ?_
  |
   refine kLp [0,4] ?_
  |
   refine kLp [3,4] ?_
  |
   refine kLp [4] ?_
  |
   refine kLp [7] ?_
  |
   refine kLp [9] ?_
  |
   refine kLp [3] ?_
  |
   refine kLp [0] ?_
  |
   refine wpAnyH_done (by kernel_rfl) ?_ _;have HR:=hide hR;have HI:=hide hI;clear hR hI;go_wp2;refine bodyPost_ret (v:=.agg #[.slice aohR n cphR,.slice aohI p cphI]) (by simp [results,Tryz.results125,go_sem, *]) rfl ⟨_,_,_,_,rfl,⟨zW HR.out bw.size,zW (by rw [← zF]; exact HI.out) bw.size,h.own.byte⟩,zd b01 vb⟩
 |
  exact AllReadyH.nil
 |
  refine kLc 0 (fun K hK => ?_) ?_;go_simp
  first
  | refine zac (K:=K _) (fun wx hk hbx => ?_)
  | refine zR (K:=K _) (fun wx hk hbx => ?_)
  (try have hI:=zo hI hbx);have hR:=zaL vrowF w2 wx 119 _ hk vv.size;have vv:=zd vv hbx;have vb:=zd vb hbx;clear hk hbx;refine kO hK (zP hw1 vb) fun hHeld => ?_
  clear hK K
 |
  refine kLc 3 (fun K hK => ?_) ?_;refine zan (F:=vrowF) rfl _ _ 26 119 rfl w2.heap.size Tryz.underlying26 zaN rfl (by decide) _ 0 [] rfl hR a n c v.rows rfl (h.rows.below (zd bw vv)) (by omega) vv.size ?_;intro aohR cphR wx how hrow hgr hbx;(try have hI:=zY hI hR (by decide) hgr);have hR:=how;have vv:=vv.trans hbx;have vb:=vb.trans (hbx.mono H12.out);clear how hrow hgr hbx;simp only [Nat.zero_add,List.nil_append] at hR ⊢;refine kO hK (zP hw1 vb) fun hHeld => ?_
  clear hK K
 |
  refine kLc 4 (fun K hK => ?_) ?_;go_simp
  first
  | refine zac (K:=K _) (fun wx hk hbx => ?_)
  | refine zR (K:=K _) (fun wx hk hbx => ?_)
  (try have hR:=zo hR hbx);have hI:=zaL intF w2 wx 3 _ hk vv.size;have vv:=zd vv hbx;have vb:=zd vb hbx;clear hk hbx;refine kO hK (zP hw1 vb) fun hHeld => ?_
  clear hK K
 |
  refine kLc 7 (fun K hK => ?_) ?_;refine zan (F:=intF) rfl _ _ 27 3 rfl w2.heap.size Tryz.underlying27 Tryz.infoI64 rfl (by decide) _ 0 [] rfl hI o p q v.own rfl ((h.own.below (zd bw vv)).flat) (by omega) vv.size ?_;intro aohI cphI wx how hrow hgr hbx;(try have hR:=zY hR hI (by decide) hgr);have hI:=how;have vv:=vv.trans hbx;have vb:=vb.trans (hbx.mono H12.out);clear how hrow hgr hbx;simp only [Nat.zero_add,List.nil_append] at hI ⊢;refine kO hK (zP hw1 vb) fun hHeld => ?_
  clear hK K
 |
  refine kLc 9 (fun K hK => ?_) ?_;obtain ⟨⟨g0,g1⟩,f0,f1⟩:=zU (ze hk1 vv);go_simp;have hR:=zN (zN hR (zl (rb:=w1.heap.size) 0 (.slice aohR n cphR)) HL.out) (zl (rb:=w1.heap.size) 1 (.slice aohI p cphI)) HL.out;have hI:=zN (zN hI (zl (rb:=w1.heap.size) 0 (.slice aohR n cphR)) HL.out) (zl (rb:=w1.heap.size) 1 (.slice aohI p cphI)) HL.out;have vb:=zg (zg vb (Nat.le_refl _) 0 (.slice aohR n cphR)) (Nat.le_refl _) 1 (.slice aohI p cphI);refine kO hK (zP hw1 vb) fun hHeld => ?_
  clear hK K

theorem VOwn.below {w w':World} {base:Nat} {a:Option Addr} {n c:Nat} {o:Option Addr} {p q:Nat} {v:VT} (h:VOwn w base a n c o p q v) (hb:Below w.heap.size w w'):VOwn w' base a n c o p q v :=
 ⟨zo h.rows hb,zo h.own hb,h.i64⟩

theorem VOwn.lt {w:World} {base base':Nat} {a:Option Addr} {n c:Nat} {o:Option Addr} {p q:Nat} {v:VT} (h:VOwn w base a n c o p q v) (hle:base'≤base):VOwn w base' a n c o p q v :=
 ⟨zW h.rows hle,zW h.own hle,h.i64⟩

theorem VOwn.set2 {w:World} {base:Nat} {a:Option Addr} {n c:Nat} {o:Option Addr} {p q:Nat} {v:VT} (h:VOwn w base a n c o p q v) {g:Nat} (hg:g < base) (u1 u2:Value):VOwn ((w.setCell ⟨g,0,none⟩ u1).setCell ⟨g,1,none⟩ u2) base a n c o p q v:=by
 have hl:∀b,some g=some b→b < base:=by intro b hb; cases hb; exact hg
 exact ⟨zN (zN h.rows (zl (rb:=g) 0 u1) hl) (zl (rb:=g) 1 u2) hl,zN (zN h.own (zl (rb:=g) 0 u1) hl) (zl (rb:=g) 1 u2) hl,h.i64⟩

theorem zgI (a:Option Addr) (n c:Nat) (o:Option Addr) (p q:Nat) (x:VT) (a2:Option Addr) (n2 c2:Nat) (o2:Option Addr) (p2 q2:Nat) (w:World) (h:VTab w a n c o p q x) (hok:zO x p2=true) :
  Calls Tryz.prog 234 #[.agg #[.slice a n c,.slice o p q],.agg #[.slice a2 n2 c2,.slice o2 p2 q2]] w fun r w'=>r=.returned (.tuple #[.agg #[.slice a n c,.slice o p q],.bool true])∧Below w.heap.size w w':=by
 generalize hw1:w.alloc (Obj.cells #[Value.slice a n c,Value.slice o p q] 29)=w1;generalize hw2:w1.alloc (Obj.cells #[Value.slice a2 n2 c2,Value.slice o2 p2 q2] 29)=w2;generalize hw3:w2.alloc (Obj.cells #[Value.slice none 0 0,Value.slice none 0 0] 29)=w3;have b01:=zb hw1;have b12:=zb hw2;have b23:=zb hw3;have b13:=zd b12 b23;have b03:=zd b01 b13;have k2:=zk hw3;have hb1:=zP hw1 b13;have hb2:=zP hw2 b23;have h3:=h.below b03;go_enter Tryz.func234,Tryz.ntmps234;go_wp2_with (refine (zS a n c o p q x (p2:Int) _ h3).mono ?_; rintro r w4 ⟨rfl,hb4⟩; rw [hok]; have hc1:=zP hw1 (zd b13 hb4); obtain ⟨⟨g0,g1⟩,f0,f1⟩:=zU (ze k2 hb4))
 have hbW:Below w.heap.size w ((w4.setCell ⟨w2.heap.size,0,none⟩ (.slice a n c)).setCell ⟨w2.heap.size,1,none⟩ (.slice o p q)):=zg (zg (zd b03 hb4) (zd b01 b12).size _ _) (zd b01 b12).size _ _;exact bodyPost_ret (v:=.tuple #[.agg #[.slice a n c,.slice o p q],.bool true]) (by simp [results,Tryz.results234,go_sem, *]) rfl ⟨rfl,hbW⟩

theorem zhQ (a:Option Addr) (n c:Nat) (o:Option Addr) (p q:Nat) (x:VT) (a2:Option Addr) (n2 c2:Nat) (o2:Option Addr) (p2 q2:Nat) (v:VT) (w:World) (h:VTab w a n c o p q x) (h2:VTab w a2 n2 c2 o2 p2 q2 v) (hok:zO x p2=false) (hn:n2≤16777216) (hp:p2≤16777216) :
  Calls Tryz.prog 234 #[.agg #[.slice a n c,.slice o p q],.agg #[.slice a2 n2 c2,.slice o2 p2 q2]] w fun r w'=>∃a' c' o' q',r=.returned (.tuple #[.agg #[.slice a' n2 c',.slice o' p2 q'],.bool false])∧VOwn w' w.heap.size a' n2 c' o' p2 q' v∧Below w.heap.size w w':=by
 generalize hw1:w.alloc (Obj.cells #[Value.slice a n c,Value.slice o p q] 29)=w1;generalize hw2:w1.alloc (Obj.cells #[Value.slice a2 n2 c2,Value.slice o2 p2 q2] 29)=w2;generalize hw3:w2.alloc (Obj.cells #[Value.slice none 0 0,Value.slice none 0 0] 29)=w3;have b01:=zb hw1;have b12:=zb hw2;have b23:=zb hw3;have b13:=zd b12 b23;have b03:=zd b01 b13;have k2:=zk hw3;have z3:w2.heap.size < w3.heap.size:=by rw [← hw3]; simp
 have hb1:=zP hw1 b13;have hb2:=zP hw2 b23;have h3:=h.below b03;have h4:=h2.below b03;go_enter Tryz.func234,Tryz.ntmps234;go_wp2_with (refine (zS a n c o p q x (p2:Int) _ h3).mono ?_; rintro r w4 ⟨rfl,hb4⟩; rw [hok]; have hc2:=zP hw2 (zd b23 hb4))
 go_wp2_with (refine (zav a2 n2 c2 o2 p2 q2 v _ (h4.below hb4) hn hp).mono ?_; rintro r w5 ⟨a',c',o',q',rfl,hO,hb5⟩; obtain ⟨⟨g0,g1⟩,f0,f1⟩:=zU (ze k2 (zd hb4 hb5)))
 have hbW:Below w.heap.size w ((w5.setCell ⟨w2.heap.size,0,none⟩ (.slice a' n2 c')).setCell ⟨w2.heap.size,1,none⟩ (.slice o' p2 q')):=zg (zg (zd b03 (zd hb4 hb5)) (zd b01 b12).size _ _) (zd b01 b12).size _ _;have hO':=(hO.set2 (g:=w2.heap.size) (by have:=hb4.size; omega) (.slice a' n2 c') (.slice o' p2 q')).lt (base':=w.heap.size) (by have:=hb4.size; have:=b03.size; omega);have HO:=hide hO';clear hO hO';exact bodyPost_ret (v:=.tuple #[.agg #[.slice a' n2 c',.slice o' p2 q'],.bool false]) (by simp [results,Tryz.results234,go_sem, *]) rfl ⟨_,_,_,_,rfl,HO.out,hbW⟩

def orV (x v:VT):VT × Bool:=if zO x v.own.length then (x,true) else (v,false)

def zci (v:VT) (port id:Int):VT × Bool :=
 if zO v v.own.length && (decide (0≤port) && decide (port≤(v.own.length:Int) - 1)) then orV ⟨v.rows,v.own.set port.toNat id⟩ v else (v,false)

theorem VOwn.len {w:World} {base:Nat} {a:Option Addr} {n c:Nat} {o:Option Addr} {p q:Nat} {v:VT} (h:VOwn w base a n c o p q v):v.rows.length=n∧v.own.length=p:=⟨h.tab.rows.size,h.tab.own.size⟩

theorem VOwn.addr {w:World} {base:Nat} {a:Option Addr} {n c:Nat} {o:Option Addr} {p q:Nat} {v:VT} (h:VOwn w base a n c o p q v) (hp:0 < p):∃g,o=some ⟨g,0,none⟩∧base≤g∧g < w.heap.size :=
 zbC (F:=intF) (by rw [zF]; exact h.own) hp

theorem VOwn.setOwn {w:World} {base:Nat} {a:Option Addr} {n c g p q:Nat} {v:VT} (h:VOwn w base a n c (some ⟨g,0,none⟩) p q v) {k:Nat} (hk:k < p) {id:Int} (hid : -9223372036854775808≤id∧id≤9223372036854775807) :
  ((∃u,w.cell? ⟨g,k,none⟩=some u)∧w.frozen? ⟨g,k,none⟩=false)∧VOwn (w.setCell ⟨g,k,none⟩ (.int .i64 id)) base a n c (some ⟨g,0,none⟩) p q ⟨v.rows,v.own.set k id⟩:=by
 have hl:=h.len.2;refine ⟨⟨?_,h.own.frozenAt k⟩,zY h.rows h.own (by decide) (zl (rb:=g) k _), ?_, ?_⟩
 ·rw [h.own.cellAt k (by omega)];exact ⟨_,List.getElem?_eq_getElem (by rw [zdr]; omega)⟩
 ·have:=(h.own.stored k (.int .i64 id)).1
  rw [show (cI v.own).set k (.int .i64 id)=cI (v.own.set k id) by simp [cI,List.map_set]] at this;exact this
 ·intro z hz;rcases List.mem_or_eq_of_mem_set hz with hz | rfl
  ·exact h.i64 z hz
  ·exact hid

theorem zcG (base:Nat) (a:Option Addr) (n c:Nat) (o:Option Addr) (p q:Nat) (x:VT) (a2:Option Addr) (n2 c2:Nat) (o2:Option Addr) (p2 q2:Nat) (v:VT) (w:World) (h:VOwn w base a n c o p q x) (h2:VTab w a2 n2 c2 o2 p2 q2 v) (hn:n2≤16777216) (hp:p2≤16777216) (hbase:base≤w.heap.size) :
  Calls Tryz.prog 234 #[.agg #[.slice a n c,.slice o p q],.agg #[.slice a2 n2 c2,.slice o2 p2 q2]] w fun r w'=>∃a' n' c' o' p' q',r=.returned (.tuple #[.agg #[.slice a' n' c',.slice o' p' q'],.bool (orV x v).2])∧VOwn w' base a' n' c' o' p' q' (orV x v).1∧Below w.heap.size w w':=by
 have hl:=h2.own.size;unfold orV;rw [hl];cases hok:zO x p2
 ·refine (zhQ a n c o p q x a2 n2 c2 o2 p2 q2 v w h.tab h2 hok hn hp).mono ?_;rintro r w' ⟨a',c',o',q',rfl,hO,hb⟩;exact ⟨a',n2,c',o',p2,q',rfl,hO.lt hbase,hb⟩
 ·refine (zgI a n c o p q x a2 n2 c2 o2 p2 q2 w h.tab hok).mono ?_;rintro r w' ⟨rfl,hb⟩;exact ⟨a,n,c,o,p,q,rfl,h.below hb,hb⟩

theorem zde (a:Option Addr) (n c:Nat) (o:Option Addr) (p q:Nat) (v:VT) (port id:Int) (w:World) (h:VTab w a n c o p q v) (hn:n≤16777216) (hp:p≤16777216) (hid : -9223372036854775808≤id∧id≤9223372036854775807) :
  Calls Tryz.prog 184 #[.agg #[.slice a n c,.slice o p q],.int .i64 port,.int .i64 id] w fun r w'=>∃a' n' c' o' p' q',r=.returned (.tuple #[.agg #[.slice a' n' c',.slice o' p' q'],.bool (zci v port id).2])∧VOwn w' w.heap.size a' n' c' o' p' q' (zci v port id).1∧Below w.heap.size w w':=by
 generalize hw1:w.alloc (Obj.cells #[Value.slice a n c,Value.slice o p q] 29)=w1;generalize hw2:w1.alloc (Obj.cells #[Value.slice none 0 0,Value.slice none 0 0] 29)=w2;have b01:=zb hw1;have b12:=zb hw2;have b02:=zd b01 b12;have k1:=zk hw2;have z2:w1.heap.size < w2.heap.size:=by rw [← hw2]; simp
 have hb1:=zP hw1 b12;have h2:=h.below b02;have hl:=h.own.size;have hsub:IntKind.i64.wrap ((p:Int) - 1)=(p:Int) - 1:=by rw [IntKind.wrap_i64]; omega
 have Z2:=hide z2;clear z2;unfold zci;rw [hl];cases hok:zO v p
 ·rw [Bool.false_and,if_neg Bool.false_ne_true];go_enter Tryz.func184,Tryz.ntmps184;go_wp2_with (refine (zS a n c o p q v (p:Int) _ h2).mono ?_; rintro r w3 ⟨rfl,hb3⟩; rw [hok]; have hc1:=zP hw1 (zd b12 hb3))
  go_wp2_with (refine (zav a n c o p q v _ (h2.below hb3) hn hp).mono ?_; rintro r w4 ⟨a',c',o',q',rfl,hO,hb4⟩; obtain ⟨⟨g0,g1⟩,f0,f1⟩:=zU (ze k1 (zd hb3 hb4)))
  have hbW:Below w.heap.size w ((w4.setCell ⟨w1.heap.size,0,none⟩ (.slice a' n c')).setCell ⟨w1.heap.size,1,none⟩ (.slice o' p q')):=zg (zg (zd b02 (zd hb3 hb4)) b01.size _ _) b01.size _ _;have hO':=(hO.set2 (g:=w1.heap.size) (by have:=hb3.size; have:=Z2.out; omega) (.slice a' n c') (.slice o' p q')).lt (base':=w.heap.size) (by have:=hb3.size; have:=b02.size; omega);have HO:=hide hO';clear hO hO';exact bodyPost_ret (v:=.tuple #[.agg #[.slice a' n c',.slice o' p q'],.bool false]) (by simp [results,Tryz.results184,go_sem, *]) rfl ⟨_,_,_,_,_,_,rfl,HO.out,hbW⟩
 ·rw [Bool.true_and];cases hin:(decide (0≤port) && decide (port≤(p:Int) - 1))
  ·rw [if_neg Bool.false_ne_true];have HIN:=hide hin;clear hin;go_enter Tryz.func184,Tryz.ntmps184;go_wp2_with (refine (zS a n c o p q v (p:Int) _ h2).mono ?_; rintro r w3 ⟨rfl,hb3⟩; rw [hok]; have hc1:=zP hw1 (zd b12 hb3))
   go_wp2_with (refine (zi port 0 ((p:Int) - 1) _).mono ?_; rintro r wy ⟨rfl,rfl⟩; rw [HIN.out])
   go_wp2_with (refine (zav a n c o p q v _ (h2.below hb3) hn hp).mono ?_; rintro r w4 ⟨a',c',o',q',rfl,hO,hb4⟩; obtain ⟨⟨g0,g1⟩,f0,f1⟩:=zU (ze k1 (zd hb3 hb4)))
   have hbW:Below w.heap.size w ((w4.setCell ⟨w1.heap.size,0,none⟩ (.slice a' n c')).setCell ⟨w1.heap.size,1,none⟩ (.slice o' p q')):=zg (zg (zd b02 (zd hb3 hb4)) b01.size _ _) b01.size _ _;have hO':=(hO.set2 (g:=w1.heap.size) (by have:=hb3.size; have:=Z2.out; omega) (.slice a' n c') (.slice o' p q')).lt (base':=w.heap.size) (by have:=hb3.size; have:=b02.size; omega);have HO:=hide hO';clear hO hO';exact bodyPost_ret (v:=.tuple #[.agg #[.slice a' n c',.slice o' p q'],.bool false]) (by simp [results,Tryz.results184,go_sem, *]) rfl ⟨_,_,_,_,_,_,rfl,HO.out,hbW⟩
  ·rw [if_pos rfl];obtain ⟨k,rfl⟩:∃k:Nat,port=(k:Int):=⟨port.toNat,by simp at hin; omega⟩;have hk:k < p:=by simp at hin; omega
   rw [Int.toNat_natCast];have HIN:=hide hin;clear hin;have i1:(0:Int)≤(k:Int):=by omega
   have i2:(k:Int) < (p:Int):=by omega
   go_enter Tryz.func184,Tryz.ntmps184;go_wp2_with (refine (zS a n c o p q v (p:Int) _ h2).mono ?_; rintro r w3 ⟨rfl,hb3⟩; rw [hok]; have hc1:=zP hw1 (zd b12 hb3))
   go_wp2_with (refine (zi (k:Int) 0 ((p:Int) - 1) _).mono ?_; rintro r wy ⟨rfl,rfl⟩; rw [HIN.out])
   (go_wp2_with fail);refine (zav a n c o p q v _ (h2.below hb3) hn hp).mono ?_;rintro r w4 ⟨a',c',o',q',rfl,hO,hb4⟩;obtain ⟨g,hg0,hg1,hg2⟩:=hO.addr (by omega);subst hg0;generalize hw5:w4.alloc (Obj.cells #[Value.slice a' n c',Value.slice (some ⟨g,0,none⟩) p q'] 29)=w5;have b45:=zb hw5;have hO5:=hO.below b45;obtain ⟨⟨⟨u,cu⟩,cf⟩,hO6⟩:=hO5.setOwn hk hid;have b25:=zd hb3 (zd hb4 b45);have hgw:w.heap.size≤g∧w1.heap.size < g:=by have:=hb3.size; have:=b01.size; have:=Z2.out; omega
   have b16:Below w1.heap.size w1 (w5.setCell ⟨g,k,none⟩ (.int .i64 id)):=zg (zd b12 b25) (by omega) _ _;have b06:Below w.heap.size w (w5.setCell ⟨g,k,none⟩ (.int .i64 id)):=zg (zd b02 b25) hgw.1 _ _;have b26:Below w2.heap.size w2 (w5.setCell ⟨g,k,none⟩ (.int .i64 id)):=zg b25 (by have:=hb3.size; omega) _ _;have hc5:=zU (by rw [← hw5]; exact zv w4 _:w5.heap[w4.heap.size]? = some (.cells #[.slice a' n c',.slice (some ⟨g,0,none⟩) p q'] 29));have hc6:=zU (zx (b:=g) (j:=k) (u:=.int .i64 id) (by rw [← hw5]; exact zv w4 _:w5.heap[w4.heap.size]? = some (.cells #[.slice a' n c',.slice (some ⟨g,0,none⟩) p q'] 29)) (by omega));have hd6:=zP hw1 b16;have k6:=zx (b:=g) (j:=k) (u:=.int .i64 id) (ze k1 b25) (by omega);have z6:w1.heap.size < w5.heap.size:=by have:=b25.size; have:=Z2.out; omega
   generalize hw6:w5.setCell ⟨g,k,none⟩ (.int .i64 id)=w6 at *;have HO6:=hide hO6;clear hO hO5 hO6;(go_wp2_with fail);refine (zcG w2.heap.size a' n c' (some ⟨g,0,none⟩) p q' _ a n c o p q v _ (HO6.out.lt hb3.size) (h.below b06) hn hp b26.size).mono ?_;rintro r w7 ⟨a7,n7,c7,o7,p7,q7,rfl,hO7,hb7⟩;obtain ⟨⟨g0,g1⟩,f0,f1⟩:=zU (ze k6 hb7);have hbW:Below w.heap.size w ((w7.setCell ⟨w1.heap.size,0,none⟩ (.slice a7 n7 c7)).setCell ⟨w1.heap.size,1,none⟩ (.slice o7 p7 q7)):=zg (zg (zd b06 hb7) b01.size _ _) b01.size _ _;have hO':=(hO7.set2 (g:=w1.heap.size) Z2.out (.slice a7 n7 c7) (.slice o7 p7 q7)).lt (base':=w.heap.size) b02.size;have HO:=hide hO';clear hO7 hO' hw5 hw6;go_wp2;exact bodyPost_ret (v:=.tuple #[.agg #[.slice a7 n7 c7,.slice o7 p7 q7],.bool (orV ⟨v.rows,v.own.set k id⟩ v).2]) (by simp [results,Tryz.results184,go_sem, *]) rfl ⟨_,_,_,_,_,_,rfl,HO.out,hbW⟩

theorem zaf {w:World} {base k:Nat} {e:TypeId} {v:Value} {n:Nat} {xs:List Value} (h:w.ownsRow base e k v n xs) {X:Nat} {cs:Array Value} {T:TypeId} (hX:w.heap[X]? = some (.cells cs T)) (hne:(e:Nat)≠T):∀b,v.ownBlock=some b→b≠X:=by
 obtain ⟨-,h | ⟨g,cap,cur,rfl,-,hh,-⟩⟩:=h
 ·rw [h.1]; intro b hb; cases hb
 ·intro b hb e
  have:g=b:=by simpa [Value.ownBlock] using hb
  subst this e;rw [hh] at hX;cases hX;exact hne rfl

structure RowSt (B:Nat) (w:World) (X:Nat) (ar:Option Addr) (nr cr:Nat) (o:Option Addr) (p q:Nat) (own:List Int) (zs:List VR):Prop where
 box:w.heap[X]? = some (.cells #[.slice ar nr cr,.slice o p q] 29)
 rows:w.ownsRow B 119 3 (.slice ar nr cr) nr (vrowF.all zs)
 own:w.ownsRow B 3 1 (.slice o p q) p (cI own)

theorem RowSt.below {B:Nat} {w w':World} {X:Nat} {ar:Option Addr} {nr cr:Nat} {o:Option Addr} {p q:Nat} {own:List Int} {zs:List VR} (h:RowSt B w X ar nr cr o p q own zs) (hb:Below w.heap.size w w'):RowSt B w' X ar nr cr o p q own zs :=
 ⟨ze h.box hb,zo h.rows hb,zo h.own hb⟩

theorem RowSt.cell {B:Nat} {w:World} {X:Nat} {ar:Option Addr} {nr cr:Nat} {o:Option Addr} {p q:Nat} {own:List Int} {zs:List VR} (h:RowSt B w X ar nr cr o p q own zs):(w.cell? ⟨X,0,none⟩=some (.slice ar nr cr)∧w.cell? ⟨X,1,none⟩=some (.slice o p q))∧w.frozen? ⟨X,0,none⟩=false∧w.frozen? ⟨X,1,none⟩=false:=zU h.box

theorem RowSt.push {B:Nat} {w w':World} {X:Nat} {ar:Option Addr} {nr cr:Nat} {o:Option Addr} {p q:Nat} {own:List Int} {zs zs':List VR} (h:RowSt B w X ar nr cr o p q own zs) {a':Option Addr} {n' c':Nat} (how:w'.ownsRow B 119 3 (.slice a' n' c') n' (vrowF.all zs')) (hg:w.grownBy w' (Value.slice ar nr cr).ownBlock) :
  (w'.cell? ⟨X,0,none⟩=some (.slice ar nr cr)∧w'.frozen? ⟨X,0,none⟩=false)∧RowSt B (w'.setCell ⟨X,0,none⟩ (.slice a' n' c')) X a' n' c' o p q own zs':=by
 have hbx:=zA h.box hg (fun k hk=>zaf h.rows h.box (by decide) k hk);have hown:=zY h.own h.rows (by decide) hg;have hc:=zU hbx;refine ⟨⟨hc.1.1,hc.2.1⟩, ?_,zC how (zl (rb:=X) 0 _) (zaf how hbx (by decide)),zC hown (zl (rb:=X) 0 _) (zaf hown hbx (by decide))⟩;rw [zp hbx]
 rfl

theorem zdO {x r:VR} {t:List VR} {d:Bool} {zs:List VR} (h:(!d && decide (r.i≤x.i))=false) (hne:(x.i != r.i)=true):zs++[x]++zy t r (d || decide (r.i≤x.i))=zs++zy (x::t) r d:=by
 rw [show zy (x::t) r d=(if !d && decide (r.i≤x.i) then [r] else [])++(if x.i != r.i then [x] else [])++zy t r (d || decide (r.i≤x.i)) by simp [zy]];rw [h,hne]
 simp
theorem zdP {x r:VR} {t:List VR} {d:Bool} {zs:List VR} (h:(!d && decide (r.i≤x.i))=false) (hne:(x.i != r.i)=false):zs++zy t r (d || decide (r.i≤x.i))=zs++zy (x::t) r d:=by
 rw [show zy (x::t) r d=(if !d && decide (r.i≤x.i) then [r] else [])++(if x.i != r.i then [x] else [])++zy t r (d || decide (r.i≤x.i)) by simp [zy]];rw [h,hne]
 simp
theorem zfJ {x r:VR} {t:List VR} {d:Bool} {zs:List VR} (h:(!d && decide (r.i≤x.i))=true) (hne:(x.i != r.i)=true):(zs++[r])++[x]++zy t r (d || decide (r.i≤x.i))=zs++zy (x::t) r d:=by
 rw [show zy (x::t) r d=(if !d && decide (r.i≤x.i) then [r] else [])++(if x.i != r.i then [x] else [])++zy t r (d || decide (r.i≤x.i)) by simp [zy]];rw [h,hne]
 simp
theorem zfK {x r:VR} {t:List VR} {d:Bool} {zs:List VR} (h:(!d && decide (r.i≤x.i))=true) (hne:(x.i != r.i)=false):(zs++[r])++zy t r (d || decide (r.i≤x.i))=zs++zy (x::t) r d:=by
 rw [show zy (x::t) r d=(if !d && decide (r.i≤x.i) then [r] else [])++(if x.i != r.i then [x] else [])++zy t r (d || decide (r.i≤x.i)) by simp [zy]];rw [h,hne]
 simp

structure BrOwn (w:World) (base:Nat) (a:Option Addr) (n c:Nat) (fa:Option Addr) (fn fc:Nat) (ra:Option Addr) (rn rc:Nat) (oa:Option Addr) (on oc:Nat) (B:BR):Prop where
 ports:w.ownsRow base 113 8 (.slice a n c) n (ptF.all B.ports)
 f:w.ownsRow base 116 5 (.slice fa fn fc) fn (fentF.all B.f)
 v:VOwn w base ra rn rc oa on oc B.v

theorem BrOwn.row {w:World} {base:Nat} {a:Option Addr} {n c:Nat} {fa:Option Addr} {fn fc:Nat} {ra:Option Addr} {rn rc:Nat} {oa:Option Addr} {on oc:Nat} {B:BR} (h:BrOwn w base a n c fa fn fc ra rn rc oa on oc B):BrRow w a n c fa fn fc ra rn rc oa on oc B :=
 ⟨zE (F:=ptF) h.ports,zE (F:=fentF) h.f,h.v.tab⟩

theorem BrOwn.below {w w':World} {base:Nat} {a:Option Addr} {n c:Nat} {fa:Option Addr} {fn fc:Nat} {ra:Option Addr} {rn rc:Nat} {oa:Option Addr} {on oc:Nat} {B:BR} (h:BrOwn w base a n c fa fn fc ra rn rc oa on oc B) (hb:Below w.heap.size w w'):BrOwn w' base a n c fa fn fc ra rn rc oa on oc B :=
 ⟨zo h.ports hb,zo h.f hb,h.v.below hb⟩

theorem BrOwn.lt {w:World} {base base':Nat} {a:Option Addr} {n c:Nat} {fa:Option Addr} {fn fc:Nat} {ra:Option Addr} {rn rc:Nat} {oa:Option Addr} {on oc:Nat} {B:BR} (h:BrOwn w base a n c fa fn fc ra rn rc oa on oc B) (hle:base'≤base):BrOwn w base' a n c fa fn fc ra rn rc oa on oc B :=
 ⟨zW h.ports hle,zW h.f hle,h.v.lt hle⟩

theorem BrOwn.apart {w w':World} {base:Nat} {a:Option Addr} {n c:Nat} {fa:Option Addr} {fn fc:Nat} {ra:Option Addr} {rn rc:Nat} {oa:Option Addr} {on oc:Nat} {B:BR} (h:BrOwn w base a n c fa fn fc ra rn rc oa on oc B) {row:Option Nat} (hg:w.grownBy w' row) (hlt:∀b,row=some b→b < base):BrOwn w' base a n c fa fn fc ra rn rc oa on oc B :=
 ⟨zN h.ports hg hlt,zN h.f hg hlt,⟨zN h.v.rows hg hlt,zN h.v.own hg hlt,h.v.i64⟩⟩

theorem BrOwn.boxed {w:World} {base:Nat} {a:Option Addr} {n c:Nat} {fa:Option Addr} {fn fc:Nat} {ra:Option Addr} {rn rc:Nat} {oa:Option Addr} {on oc:Nat} {B:BR} (h:BrOwn w base a n c fa fn fc ra rn rc oa on oc B) {X:Nat} {cs:Array Value} (hX:w.heap[X]? = some (.cells cs 31)) (j:Nat) (u:Value):BrOwn (w.setCell ⟨X,j,none⟩ u) base a n c fa fn fc ra rn rc oa on oc B :=
 ⟨zC h.ports (zl (rb:=X) j u) (zaf h.ports hX (by decide)),zC h.f (zl (rb:=X) j u) (zaf h.f hX (by decide)),
  ⟨zC h.v.rows (zl (rb:=X) j u) (zaf h.v.rows hX (by decide)),zC h.v.own (zl (rb:=X) j u) (zaf h.v.own hX (by decide)),h.v.i64⟩⟩

theorem BrOwn.newPorts {w w':World} {base:Nat} {a:Option Addr} {n c:Nat} {fa:Option Addr} {fn fc:Nat} {ra:Option Addr} {rn rc:Nat} {oa:Option Addr} {on oc:Nat} {B:BR} (h:BrOwn w base a n c fa fn fc ra rn rc oa on oc B) (hg:w.grownBy w' (Value.slice a n c).ownBlock) {a':Option Addr} {n' c':Nat} {l:List PT} (hp:w'.ownsRow base 113 8 (.slice a' n' c') n' (ptF.all l)) :
  BrOwn w' base a' n' c' fa fn fc ra rn rc oa on oc { B with ports:=l } :=
 ⟨hp,zY h.f h.ports (by decide) hg,⟨zY h.v.rows h.ports (by decide) hg,zY h.v.own h.ports (by decide) hg,h.v.i64⟩⟩

theorem BrOwn.putPorts {w w':World} {base:Nat} {a:Option Addr} {n c:Nat} {fa:Option Addr} {fn fc:Nat} {ra:Option Addr} {rn rc:Nat} {oa:Option Addr} {on oc:Nat} {B:BR} (h:BrOwn w base a n c fa fn fc ra rn rc oa on oc B) (hb:Below w.heap.size w w') {a':Option Addr} {n' c':Nat} {l:List PT} (hp:w'.ownsRow base 113 8 (.slice a' n' c') n' (ptF.all l)):BrOwn w' base a' n' c' fa fn fc ra rn rc oa on oc { B with ports:=l } :=
 ⟨hp,(h.below hb).f,(h.below hb).v⟩

theorem BrOwn.putF {w w':World} {base:Nat} {a:Option Addr} {n c:Nat} {fa:Option Addr} {fn fc:Nat} {ra:Option Addr} {rn rc:Nat} {oa:Option Addr} {on oc:Nat} {B:BR} (h:BrOwn w base a n c fa fn fc ra rn rc oa on oc B) (hb:Below w.heap.size w w') {fa':Option Addr} {fn' fc':Nat} {l:List FE} (hp:w'.ownsRow base 116 5 (.slice fa' fn' fc') fn' (fentF.all l)):BrOwn w' base a n c fa' fn' fc' ra rn rc oa on oc { B with f:=l } :=
 ⟨(h.below hb).ports,hp,(h.below hb).v⟩

theorem BrOwn.putV {w w':World} {base:Nat} {a:Option Addr} {n c:Nat} {fa:Option Addr} {fn fc:Nat} {ra:Option Addr} {rn rc:Nat} {oa:Option Addr} {on oc:Nat} {B:BR} (h:BrOwn w base a n c fa fn fc ra rn rc oa on oc B) (hb:Below w.heap.size w w') {ra':Option Addr} {rn' rc':Nat} {oa':Option Addr} {on' oc':Nat} {v:VT} (hp:VOwn w' base ra' rn' rc' oa' on' oc' v):BrOwn w' base a n c fa fn fc ra' rn' rc' oa' on' oc' { B with v:=v } :=
 ⟨(h.below hb).ports,(h.below hb).f,hp⟩

theorem box11 {w:World} {g:Nat} {cs:Array Value} {T:TypeId} (h:w.heap[g]? = some (.cells cs T)) (j:Nat) (u:Value):(w.setCell ⟨g,j,none⟩ u).heap[g]? = some (.cells (cs.setIfInBounds j u) T):=zp (j:=j) h u

def zbQ (ports:Int):VT:=if (decide (1≤ports) && decide (ports≤6))=true then ⟨[⟨1,allOf ports.toNat,allOf ports.toNat⟩],List.replicate ports.toNat 1⟩ else ⟨[],[]⟩

theorem zgO {ports:Int} (h:(decide (1≤ports) && decide (ports≤6))=false):zbQ ports=⟨[],[]⟩:=by
 unfold zbQ;rw [h,if_neg Bool.false_ne_true]
theorem zb7 {p:Nat} (h:(decide (1≤(p:Int)) && decide ((p:Int)≤6))=true):zbQ p=⟨[⟨1,allOf p,allOf p⟩],List.replicate p 1⟩:=by
 unfold zbQ;rw [if_pos h,Int.toNat_natCast]

theorem zip (k:Nat):I64s (List.replicate k 1):=by
 intro z hz;rw [List.eq_of_mem_replicate hz];exact ⟨by decide,by decide⟩

theorem zhq {α:Type} (F:Flat α) {w:World} {g base:Nat} {x:α} {cs:Array Value} {T:TypeId} (h:w.heap[g]? = some (.cells cs T)) (hc:cs.toList=F.cs x) (hb:base≤g):w.ownsRow base T F.k (.slice (some ⟨g,0,none⟩) 1 1) 1 (F.all [x]):=by
 have hl:cs.toList.length=F.k:=by rw [hc,F.len]
 refine ⟨by rw [F.all_length]; rfl,.inr ⟨g,1,cs,rfl,hb,h,Nat.le_refl _,by unfold maxLen; omega, ?_, ?_⟩⟩
 ·have:=hl
  simp at this
  rw [this,Nat.one_mul]
 ·rw [F.all_one,Nat.one_mul,← hc,← hl,List.take_length]

theorem ziO (w:World) (base:Nat):VOwn w base none 0 0 none 0 0 ⟨[],[]⟩:=⟨World.ownsRow_nil _ _ _ _,World.ownsRow_nil _ _ _ _,(by intro z hz; cases hz)⟩

theorem zcb (ports:Int) (w:World) :
  Calls Tryz.prog 182 #[.int .i64 ports] w fun e w'=>∃a n c o p q,e=.returned (.agg #[.slice a n c,.slice o p q])∧VOwn w' w.heap.size a n c o p q (zbQ ports)∧Below w.heap.size w w':=by
 generalize hw1:w.alloc (Obj.cells #[Value.slice none 0 0,Value.slice none 0 0] 29)=w1;have b01:=zb hw1;have k0:=zk hw1;have z1:Hid (w.heap.size < w1.heap.size):=hide (by rw [← hw1]; simp);cases hin:(decide (1≤ports) && decide (ports≤6))
 ·rw [zgO hin];have HIN:=hide hin;clear hin;obtain ⟨⟨g0,g1⟩,f0,f1⟩:=zU k0;have HB:=hide (zg (zg b01 (Nat.le_refl _) 0 (.slice none 0 0)) (Nat.le_refl _) 1 (.slice none 0 0));go_enter Tryz.func182,Tryz.ntmps182;go_wp2_with (refine (zi ports 1 6 _).mono ?_; rintro r w2 ⟨rfl,e2⟩; obtain rfl:=e2.symm; rw [HIN.out])
  exact bodyPost_ret (v:=.agg #[.slice none 0 0,.slice none 0 0]) (by simp [results,Tryz.results182,go_sem, *]) rfl ⟨_,_,_,_,_,_,rfl,ziO _ _,HB.out⟩
 ·obtain ⟨p,rfl⟩:∃p:Nat,ports=(p:Int):=⟨ports.toNat,by simp at hin; omega⟩;rw [zb7 hin];have HIN:=hide hin;have hp:1≤(p:Int)∧(p:Int)≤6:=by simpa using hin
  clear hin;generalize hw2:w1.alloc (Obj.cells #[Value.int .i64 1,Value.int .i64 (allOf p),Value.int .i64 (allOf p)] 119)=w2;have b12:=zb hw2;have k1:=zk hw2;generalize hwz:w2.alloc (Obj.cells #[Value.slice none 0 0,Value.slice none 0 0] 29)=wz;have b2z:=zb hwz;have kz:=zk hwz;obtain ⟨⟨j0,j1⟩,j2,j3⟩:=zU kz;generalize hw3:(wz.setCell ⟨w2.heap.size,0,none⟩ (Value.slice (some ⟨w1.heap.size,0,none⟩) 1 1)).setCell ⟨w2.heap.size,1,none⟩ (Value.slice none 0 0)=w3;have b23:Below w2.heap.size w2 w3:=by subst hw3; exact zg (zg b2z (Nat.le_refl _) _ _) (Nat.le_refl _) _ _
  have k2:w3.heap[w2.heap.size]? = some (.cells #[.slice (some ⟨w1.heap.size,0,none⟩) 1 1,.slice none 0 0] 29):=by
   have h1:=zp (j:=0) kz (Value.slice (some ⟨w1.heap.size,0,none⟩) 1 1);have h2:=zp (j:=1) h1 (Value.slice none 0 0);rw [hw3] at h2;exact h2
  have hR:w3.ownsRow w1.heap.size 119 3 (.slice (some ⟨w1.heap.size,0,none⟩) 1 1) 1 (vrowF.all [⟨1,allOf p,allOf p⟩]):=zo (zhq vrowF (x:=⟨1,allOf p,allOf p⟩) k1 rfl (Nat.le_refl _)) b23;have b13:=zd b12 b23;have hall:=zfS p hp.1 hp.2;have X2:Hid (w1.heap.size≤w2.heap.size):=hide b12.size;have hwp:IntKind.u64.wrap (p:Int)=(p:Int):=by rw [IntKind.wrap_u64]; omega
  go_enter Tryz.func182,Tryz.ntmps182;go_wp2_with (refine (zi (p:Int) 1 6 _).mono ?_; rintro r wy ⟨rfl,ey⟩; obtain rfl:=ey.symm; rw [HIN.out])
  go_wp2;rw [hall];clear j0 j1 j2 j3
  go_loopw [5] (fun i wr=>∃(k:Nat) (o:Option Addr) (q:Nat),k≤p∧i=.int .i64 k∧wr.heap[w2.heap.size]? = some (.cells #[.slice (some ⟨w1.heap.size,0,none⟩) 1 1,.slice o k q] 29)∧wr.ownsRow w1.heap.size 119 3 (.slice (some ⟨w1.heap.size,0,none⟩) 1 1) 1 (vrowF.all [⟨1,allOf p,allOf p⟩])∧wr.ownsRow w1.heap.size 3 1 (.slice o k q) k (intF.all (List.replicate k 1))∧Below w1.heap.size w1 wr) (fun i _=>p - (intOf i).toNat)
  case atStart=>exact ⟨0,none,0,Nat.zero_le _,rfl,k2,hR,World.ownsRow_nil _ _ _ _,b13⟩
  case round =>
   obtain ⟨k,o,q,hk,rfl,kX,hRr,hI,hb⟩:=hrel;by_cases hlt:k < p
   ·obtain ⟨⟨x0,x1⟩,-⟩:=zU kX;generalize hwa:wr.alloc (Obj.cells #[Value.int .i64 1] 3)=wa;have bra:=zb hwa;have ka:=zk hwa;have gone:GRow intF wa (some ⟨wr.heap.size,0,none⟩) 1 1 [1]:=zE (F:=intF) (zhq intF (x:=1) (base:=0) ka rfl (Nat.zero_le _));have hba:=zd hb bra;have HR2:=hide (zo hRr bra);have hI2:=zo hI bra;have HI0:=hide hI2;have HKX:=hide (ze kX bra);have HBA:=hide hba;clear hRr hI kX hb hba k2 hR;go_wp2_with (at_builtin; refine zw (F:=intF) _ rfl _ _ 27 3 rfl w1.heap.size Tryz.underlying27 Tryz.infoI64 rfl (by decide) _ k (List.replicate k 1) rfl hI2 (some ⟨wr.heap.size,0,none⟩) 1 1 [1] rfl gone (by omega) HBA.out.size ?_)
    intro a7 c7 w7 how hr hgr hb7;have hown2:=zY HR2.out HI0.out (by decide) hgr;have kX7:=zA HKX.out hgr (fun j hj=>zaf HI0.out HKX.out (by decide) j hj);obtain ⟨⟨y0,y1⟩,f0,f1⟩:=zU kX7;have HO:Hid ((w7.setCell ⟨w2.heap.size,1,none⟩ (.slice a7 (k+1) c7)).ownsRow w1.heap.size 3 1 (.slice a7 (k+1) c7) (k+1) (intF.all (List.replicate (k+1) 1))):=hide (by
     rw [List.replicate_succ'];exact zC how (zl (rb:=w2.heap.size) 1 _) (zaf how kX7 (by decide)))
    have HR3:=hide (zC hown2 (zl (rb:=w2.heap.size) 1 (.slice a7 (k+1) c7)) (zaf hown2 kX7 (by decide)));have HK3:Hid ((w7.setCell ⟨w2.heap.size,1,none⟩ (.slice a7 (k+1) c7)).heap[w2.heap.size]? = some (.cells #[.slice (some ⟨w1.heap.size,0,none⟩) 1 1,.slice a7 (k+1) c7] 29)):=hide (zgF kX7 _);have HB3:=hide (zg (HBA.out.trans hb7) X2.out 1 (.slice a7 (k+1) c7));clear how hr hgr hb7 hown2 hI2 x0 x1 gone ka;go_wp2
    go_roundw
    case rel=>exact ⟨k+1,a7,c7,by omega,by go_num,HK3.out,HR3.out,HO.out,HB3.out⟩
    case measure=>simp [intOf]; omega
   ·have hkp:k=p:=by omega
    subst hkp;obtain ⟨⟨x0,x1⟩,-⟩:=zU kX;obtain ⟨⟨g0,g1⟩,f0,f1⟩:=zU (ze k0 hb);have hV:VOwn wr w1.heap.size (some ⟨w1.heap.size,0,none⟩) 1 1 o k q ⟨[⟨1,allOf k,allOf k⟩],List.replicate k 1⟩:=⟨hRr,(by rw [← zF]; exact hI),zip _⟩;have HO:=hide ((hV.set2 (g:=w.heap.size) z1.out (.slice (some ⟨w1.heap.size,0,none⟩) 1 1) (.slice o k q)).lt (base':=w.heap.size) b01.size);have HB:=hide (zg (zg (zd b01 hb) (Nat.le_refl _) 0 (.slice (some ⟨w1.heap.size,0,none⟩) 1 1)) (Nat.le_refl _) 1 (.slice o k q));clear hV hRr hI hb k2 hR;go_wp2;exact bodyPost_ret (v:=.agg #[.slice (some ⟨w1.heap.size,0,none⟩) 1 1,.slice o k q]) (by simp [results,Tryz.results182,go_sem, *]) rfl ⟨_,_,_,_,_,_,rfl,HO.out,HB.out⟩

theorem zgT {l:List FE} {t m:Int} {k:Nat} {x:FE} (h:∀i y,i < k→l[i]? = some y→both y t m=false) (hx:l[k]? = some x) (hb:both x t m=true):atF l t m=k:=by
 have hk:=(List.getElem?_eq_some_iff.1 hx).1
 have:l.findIdx? (fun e=>both e t m)=some k:=by
  rw [List.findIdx?_eq_some_iff_getElem];refine ⟨hk, ?_,fun j hj => ?_⟩
  ·rw [List.getElem?_eq_getElem hk] at hx;cases hx;exact hb
  ·have:=h j l[j] hj (List.getElem?_eq_getElem (by omega))
   simp [this]
 unfold atF;rw [this]

theorem zh3 {l:List FE} {t m:Int} (h:∀i y,i < l.length→l[i]? = some y→both y t m=false):atF l t m = -1:=by
 have:l.findIdx? (fun e=>both e t m)=none:=by
  rw [List.findIdx?_eq_none_iff];intro x hx;obtain ⟨i,hi,rfl⟩:=List.getElem_of_mem hx;exact h i _ hi (List.getElem?_eq_getElem hi)
 unfold atF;rw [this]

theorem zhk {l:List FE} {t m:Int} {k:Nat} {x:FE} (h:∀j y,j < k→l[j]? = some y→both y t m=false) (hx:l[k]? = some x) (hb:both x t m=false):∀j y,j < k+1→l[j]? = some y→both y t m=false:=by
 intro j y hj hy;by_cases e:j=k
 ·subst e;rw [hx] at hy;cases hy;exact hb
 ·exact h j y (by omega) hy

theorem zaT (ao:Option Addr) (n cap:Nat) (l:List FE) (t m:Int) (w:World) (h:GRow fentF w ao n cap l) :
  Calls Tryz.prog 188 #[.slice ao n cap,.int .i64 t,.int .i64 m] w fun r w'=>r=.returned (.int .i64 (atF l t m))∧w'=w:=by
 have hle:=h.le;have htop:=h.top;unfold maxLen at htop;have hsz:=h.size;go_enter Tryz.func188,Tryz.ntmps188;go_wp2
 go_loop [7] (fun i=>∃k:Nat,k≤n∧i=.int .i64 k∧∀j y,j < k→l[j]? = some y→both y t m=false) (fun i=>n - (intOf i).toNat)
 case atStart=>exact ⟨0,Nat.zero_le _,rfl,fun j y hj=>by omega⟩
 case round =>
  obtain ⟨k,hk,rfl,hno⟩:=hrel;by_cases hlt:k < n
  ·obtain ⟨x,b,off,hx,rfl,c0,c1,-⟩:=zbi h k hlt;cases t1:(x.t == t)
   ·have HO:=hide (zhk hno hx (by unfold both; rw [t1]; rfl));clear hno;go_wp2
    go_round
    case rel=>exact ⟨k+1,by omega,by go_num,HO.out⟩
    case measure=>simp [intOf]; omega
   ·cases t2:(x.m == m)
    ·have HO:=hide (zhk hno hx (by unfold both; rw [t1,t2]; rfl));clear hno;go_wp2
     go_round
     case rel=>exact ⟨k+1,by omega,by go_num,HO.out⟩
     case measure=>simp [intOf]; omega
    ·have HF:=hide (zgT hno hx (by unfold both; rw [t1,t2]; rfl));clear hno;go_wp2;go_ret;exact ⟨(by rw [HF.out]; rfl),rfl⟩
  ·have hkn:k=n:=by omega
   have HF:=hide (zh3 (l:=l) (t:=t) (m:=m) (fun i y hi hy=>hno i y (by omega) hy));clear hno;subst hkn;go_wp2;go_ret;exact ⟨(by rw [HF.out]; rfl),rfl⟩

theorem zia:(Tryz.prog.info? 116).map (fun i=>(i.zero,i.size,i.bytes))=some (some (.agg #[.int .i64 0,.int .i64 0,.int .i64 0,.int .i64 0,.bool false]),fentF.k,40):=by kernel_rfl

theorem zay (w:World) {ops:Array Oper} {rest:List Oper} {o:Oper} {a:Act} {Q:Exit→Act→World→Prop} (hgd:o.guard=none)
  (s x:Operand) (ho:o.op=Op.call { callee:=Callee.builtin Builtin.append,args:=#[s,x],argTypes:=#[25,25] }) (base:Nat)
  (v:Value) (n:Nat) (xs:List FE) (hs:a.eval s=v) (hown:w.ownsRow base 116 5 v n (fentF.all xs)) (ao:Option Addr) (m c:Nat) (zs:List FE)
  (hx:a.eval x=.slice ao m c) (hrow:GRow fentF w ao m c zs) (hsm:n+m≤137438953472) (hbase:base≤w.heap.size)
  (h:∀ao' cap' w',w'.ownsRow base 116 5 (.slice ao' (n+m) cap') (n+m) (fentF.all (xs++zs))→GRow fentF w' ao' (n+m) cap' (xs++zs)→w.grownBy w' v.ownBlock→Below base w w'→wpList Tryz.prog ops Q rest (a.put o.dst (.slice ao' (n+m) cap')) w') :
  wpList Tryz.prog ops Q (o::rest) a w :=
 zw (F:=fentF) w hgd s x 25 116 ho base Tryz.underlying25 zia rfl (by decide) v n xs hs hown ao m c zs hx hrow hsm hbase h

theorem zbE {w w':World} {B i:Nat} {o:Obj} (h:w.heap[i]? = some o) (hb:Below B w w') (hi:i < B):w'.heap[i]? = some o:=by rw [hb.block i hi]; exact h

theorem zaG (ao:Option Addr) (n cap:Nat) (l:List FE) (w:World) (h:GRow fentF w ao n cap l) (hn:n≤16777216) :
  Calls Tryz.prog 124 #[.slice ao n cap] w fun r w'=>∃ao' cap',r=.returned (.slice ao' n cap')∧w'.ownsRow w.heap.size 116 5 (.slice ao' n cap') n (fentF.all l)∧GRow fentF w' ao' n cap' l∧Below w.heap.size w w':=by
 go_enter Tryz.func124,Tryz.ntmps124;go_wp2_with (at_builtin; refine zay _ rfl _ _ rfl w.heap.size _ 0 [] rfl (zaL fentF w _ 116 w.heap.size (zv w _) (Nat.le_refl _)) ao n cap l rfl (h.below (zh _ _)) (by omega) (by simp) ?_)
 intro ao' cap' w' how hr hgr hb;have how:w'.ownsRow w.heap.size 116 5 (.slice ao' n cap') n (fentF.all l):=by simpa using how
 have hr:GRow fentF w' ao' n cap' l:=by simpa using hr
 have HO:=hide how;have HB:=hide ((zh w _).trans hb);clear how hgr hb;go_wp2;go_ret;exact ⟨ao',cap',(by simp),HO.out,hr,HB.out⟩

theorem zfa {e x:FE} {zs r:List FE} (ha:ahead x e.t e.m=false) (hb:both x e.t e.m=false):(zs++[e])++[x]++putGo e true r=zs++putGo e false (x::r):=by
 rw [show putGo e false (x::r)=e::x::putGo e true r by simp [putGo,ha,hb]]
 simp
theorem zgD {e x:FE} {zs r:List FE} (ha:ahead x e.t e.m=false) (hb:both x e.t e.m=true):(zs++[e])++putGo e true r=zs++putGo e false (x::r):=by
 rw [show putGo e false (x::r)=e::putGo e true r by simp [putGo,ha,hb]]
 simp
theorem zcq {e x:FE} {d:Bool} {zs r:List FE} (ha:d=true∨ahead x e.t e.m=true) (hb:both x e.t e.m=false):zs++[x]++putGo e d r=zs++putGo e d (x::r):=by
 have:(!d && !ahead x e.t e.m)=false:=by rcases ha with h | h <;> simp [h]
 rw [show putGo e d (x::r)=x::putGo e d r by rw [putGo,this,hb]; rfl]
 simp
theorem zee {e x:FE} {d:Bool} {zs r:List FE} (ha:d=true∨ahead x e.t e.m=true) (hb:both x e.t e.m=true):zs++putGo e d r=zs++putGo e d (x::r):=by
 have:(!d && !ahead x e.t e.m)=false:=by rcases ha with h | h <;> simp [h]
 rw [show putGo e d (x::r)=putGo e d r by rw [putGo,this,hb]; rfl]

theorem zbt {l:List FE} {k:Nat} {x:FE} (h:l[k]? = some x):l.drop k=x::l.drop (k+1):=by
 have hk:=(List.getElem?_eq_some_iff.1 h).1;rw [List.drop_eq_getElem_cons hk];rw [List.getElem?_eq_getElem hk] at h;cases h
 rfl

theorem zgm (ao:Option Addr) (n cap:Nat) (l:List Int) (w:World) (h:GRow intF w ao n cap l) (hn:n≤16777216) :
  Calls Tryz.prog 45 #[.slice ao n cap] w fun r w'=>∃ao' cap',r=.returned (.slice ao' n cap')∧w'.ownsRow w.heap.size 3 1 (.slice ao' n cap') n (intF.all l)∧Below w.heap.size w w':=by
 cases ao with
 | none =>
  have hc0:=h.nil rfl;have hn0:n=0:=by have:=h.le; omega
  subst hc0 hn0;have hl:l=[]:=List.eq_nil_of_length_eq_zero h.size;subst hl;have heq:∀W,(binOp .eql 27 (.slice none 0 0) (.slice none 0 0)).run Tryz.prog W=.ok (.bool true) W:=fun _=>by kernel_rfl
  go_enter Tryz.func45,Tryz.ntmps45;go_wp2;go_ret;exact ⟨none,0,rfl,World.ownsRow_nil _ _ _ _,Below.refl _ _⟩
 | some a =>
  have heq:∀W,(binOp .eql 27 (.slice (some a) n cap) (.slice none 0 0)).run Tryz.prog W=.ok (.bool false) W:=fun _=>by kernel_rfl
  go_enter Tryz.func45,Tryz.ntmps45;go_wp2_with (at_builtin; refine zw (F:=intF) _ rfl _ _ 27 3 rfl w.heap.size Tryz.underlying27 Tryz.infoI64 rfl (by decide) _ 0 [] rfl (zaL intF w _ 3 w.heap.size (zv w _) (Nat.le_refl _)) (some a) n cap l rfl (h.below (zh _ _)) (by omega) (by simp) ?_)
  intro ao' cap' w' how hr hgr hb;have how:w'.ownsRow w.heap.size 3 1 (.slice ao' n cap') n (intF.all l):=by
   (try simp only [Nat.zero_add,List.nil_append] at how);exact how
  have HO:=hide how;have HB:=hide ((zh w _).trans hb);clear how hgr hb hr;go_wp2;go_ret;exact ⟨ao',cap',(by simp),HO.out,HB.out⟩

def zbA (v:VT) (id:Int):VT × Bool:=match zI v.rows id with
 | none=>(v,false)
 | some k=>if zO v v.own.length then orV ⟨v.rows.take k++v.rows.drop (k+1),v.own⟩ v else (v,false)

theorem zcT {P:Program} (w:World) (t tn ty e:TypeId) (i:TypeInfo) (z:Value) (k kn:IntKind) (ht:P.underlying t=some (.slice e)) (htn:P.underlying tn=some (.int kn)) (hi:P.info? e=some i) (hz:i.zero=some z)
  (n:Nat) (h0:0 < n) (hs:0 < i.size) (h63:((n:Nat):Int)≤9223372036854775807) (h48:n*i.bytes≤140737488355328) :
  (Builtin.append_ #[t,tn] ty #[.slice none 0 0,.int k n]).run P w =
   .ok (.slice (some ⟨w.heap.size,0,none⟩) n (grownCap w n 0 e))
    (w.drew.alloc (.cells (Builtin.zeroCells z.cells n++Builtin.zeroCells z.cells (grownCap w n 0 e - n)) e)):=by
 have hw:IntKind.i64.wrap (n:Int)=n:=by rw [IntKind.wrap_i64]; omega
 have h63':¬(9223372036854775807 < (n:Int)):=by omega
 have h48':¬(281474976710656 < Builtin.nextslicecap n 0*i.bytes):=by
  have:=growslice_fits (need:=n) (old:=0) (bytes:=i.bytes) (by omega) h48
  omega
 have h48i:¬(281474976710656 < (n:Int)*(i.bytes:Int)):=by
  rw [← Int.natCast_mul];omega
 have hneg:¬((n:Int) < 0):=by omega
 have hns:¬(n*i.size=0):=Nat.mul_ne_zero (by omega) (by omega);have hn0:¬n=0:=by omega
 simp [Builtin.append_,run_underlying ht,run_underlying htn,sizeOf,typeInfo,zeroValue,hi,hz,asInt,asIntOf,hw,hneg,hns,h63',h48',h48i,Question.forced,Builtin.firstCells,newRow,grownCap,hn0]

theorem GRow.drop3 {w:World} {b off n c k:Nat} {l:List VR} (h:GRow vrowF w (some ⟨b,off,none⟩) n c l) (hk:k≤n):GRow vrowF w (if c=k then some ⟨b,off,none⟩ else some ⟨b,off+k*3,none⟩) (n - k) (c - k) (l.drop k) where
 size:=by have:=h.size; simp; omega
 le:=by have:=h.le; omega
 top:=by have:=h.top; omega
 nil:=by split <;> (intro h; cases h)
 cell:=by
  have hle:=h.le;by_cases hc0:c=k
  ·exact .inl (by omega)
  ·rw [if_neg hc0];rcases h.cell with h0 | ⟨b',off',ha,hc⟩
   ·exact .inl (by omega)
   ·cases ha;refine .inr ⟨b,off+k*3,rfl,fun i x hi j v hv => ?_⟩;rw [List.getElem?_drop] at hi
    have:=hc (k+i) x hi j v hv
    have e3:vrowF.k=3:=rfl;rw [e3] at this ⊢;rw [show off+k*3+i*3+j=off+(k+i)*3+j by omega];exact this

theorem zdT (b off n c:Nat) (o:Option Addr) (p q:Nat) (v:VT) (id:Int) (k:Nat) (w:World) (h:VTab w (some ⟨b,off,none⟩) n c o p q v) (hn:n≤16777216) (hp:p≤16777216) (hr:zI v.rows id=some k) (hok:zO v p=true) :
  Calls Tryz.prog 185 #[.agg #[.slice (some ⟨b,off,none⟩) n c,.slice o p q],.int .i64 id] w fun e w'=>∃a' n' c' o' p' q',e=.returned (.tuple #[.agg #[.slice a' n' c',.slice o' p' q'],.bool (orV ⟨v.rows.take k++v.rows.drop (k+1),v.own⟩ v).2])∧VOwn w' w.heap.size a' n' c' o' p' q' (orV ⟨v.rows.take k++v.rows.drop (k+1),v.own⟩ v).1∧Below w.heap.size w w':=by
 have hkn:k < n:=by
  obtain ⟨x,hx,-⟩:=zcF hr
  have:=(List.getElem?_eq_some_iff.1 hx).1
  have:=h.rows.size
  omega
 have hle:=h.rows.le;have htop:=h.rows.top;unfold maxLen at htop;have hat:rowAt v.rows id=(k:Int):=by unfold rowAt; rw [hr]
 generalize hw1:w.alloc (Obj.cells #[Value.slice (some ⟨b,off,none⟩) n c,Value.slice o p q] 29)=w1;generalize hw2:w1.alloc (Obj.cells #[Value.slice none 0 0,Value.slice none 0 0] 29)=w2;have b01:=zb hw1;have b12:=zb hw2;have b02:=zd b01 b12;have k1:=zk hw2;have z2:Hid (w1.heap.size < w2.heap.size):=hide (by rw [← hw2]; simp);obtain ⟨e0,e0x⟩:=zP hw1 (Below.refl _ w1);have hc2:=zP hw1 b12;have h2:=h.below b02;go_enter Tryz.func185,Tryz.ntmps185;go_wp2_with (refine (zbe (some ⟨b,off,none⟩) n c v.rows o p q id _ h2.rows).mono ?_; rintro e w3 ⟨rfl,hb3⟩; rw [hat]; have hc3:=zP hw1 (zd b12 hb3))
 go_wp2_with (refine (zS (some ⟨b,off,none⟩) n c o p q v (p:Int) _ (h2.below hb3)).mono ?_; rintro e w4 ⟨rfl,hb4⟩; rw [hok]; have hc4:=zP hw1 (zd b12 (zd hb3 hb4)))
 go_wp2_with fail
 refine (zav (some ⟨b,off,none⟩) n c o p q v _ (h2.below (zd hb3 hb4)) hn hp).mono ?_;rintro e w5' ⟨a5,c5,o5,q5,rfl,hO5,hb5⟩;generalize hw5:w5'.alloc (Obj.cells #[Value.slice a5 n c5,Value.slice o5 p q5] 29)=w5;have b55:=zb hw5;have b25:=zd hb3 (zd hb4 (zd hb5 b55));have b05:=zd b02 b25;have b15:=zd b12 b25;have k5:w5.heap[w5'.heap.size]? = some (.cells #[.slice a5 n c5,.slice o5 p q5] 29):=by rw [← hw5]; exact zv _ _
 have hO5:=hO5.below b55;have vv:Below w5.heap.size w5 w5.drew:=zr (Below.refl _ _);have vb:Below w2.heap.size w2 w5.drew:=zr b25;have z51:w5'.heap.size < w5.heap.size:=by rw [← hw5]; simp
 have z5:Hid (w5'.heap.size < w5.heap.size∧w2.heap.size≤w5'.heap.size∧w2.heap.size≤w4.heap.size):=hide ⟨z51,(zd hb3 (zd hb4 hb5)).size,(zd hb3 hb4).size⟩;clear z51;have i1:(0:Int)≤(k:Int):=by omega
 have i2:(k:Int)≤(c:Int):=by omega
 have i3:(0:Int)≤(k:Int)+1:=by omega
 have i4:(k:Int)+1≤(n:Int):=by omega
 have i5:IntKind.i64.wrap ((k:Int)+1)=(k:Int)+1:=by rw [IntKind.wrap_i64]; omega
 go_wp2_with fail
 refine wp_region_held_drew (S:=(fun W=>zcc W w.heap.size 0 (.slice (some ⟨b,off,none⟩) n c))) (by kernel_rfl) (zf hc2.1 vb) (fun hHeld => ?_);refine kK 1 ?_;refine kK 2 ?_;refine kK 3 ?_;refine kK 4 ?_;refine kK 6 ?_;refine kK 7 ?_;refine kK 8 ?_;refine kK 9 ?_;refine kK 10 ?_;refine kR 0 fun K hK => ?_
 go_simp
 first
 | refine zac (K:=K _) (fun wx hk hbx => ?_)
 | refine zR (K:=K _) (fun wx hk hbx => ?_)
 have hR:=zaL vrowF w5 wx 119 _ hk vv.size;have vv:=zd vv hbx;have vb:=zd vb hbx;clear hk hbx;refine kO hK (zf hc2.1 vb) fun hHeld => ?_
 clear hK K;refine kR 5 fun K hK => ?_
 refine zan (F:=vrowF) rfl _ _ 26 119 rfl w5.heap.size Tryz.underlying26 zaN rfl (by decide) _ 0 [] rfl hR _ k c (v.rows.take k) rfl ((h.rows.below (zd b05 vv)).take (by omega)) (by omega) vv.size ?_;intro aoR cpR wx how hrow hgr hbx;have hR:=how;have vv:=vv.trans hbx;have vb:=vb.trans (hbx.mono b25.size);clear how hrow hgr hbx;simp only [Nat.zero_add,List.nil_append] at hR ⊢;refine kO hK (zf hc2.1 vb) fun hHeld => ?_
 clear hK K;refine kR 11 fun K hK => ?_
 refine zan (F:=vrowF) rfl _ _ 26 119 rfl w5.heap.size Tryz.underlying26 zaN rfl (by decide) _ k (v.rows.take k) rfl hR _ (n - (k+1)) (c - (k+1)) (v.rows.drop (k+1)) rfl ((h.rows.below (zd b05 vv)).drop3 (by omega)) (by omega) vv.size ?_;intro aoR cpR wx how hrow hgr hbx;have hR:=how;have vv:=vv.trans hbx;have vb:=vb.trans (hbx.mono b25.size);clear how hrow hgr hbx;refine kO hK (zf hc2.1 vb) fun hHeld => ?_
 clear hK K;refine kK 12 ?_;refine kR 13 fun K hK => ?_
 have hbx:=ze k5 vv;obtain ⟨⟨g0,g1⟩,f0,f1⟩:=zU hbx;have hN:=zC (hO5.below vv).own (zl (rb:=w5'.heap.size) 0 (.slice aoR (k+(n - (k+1))) cpR)) (zaf (hO5.below vv).own hbx (by decide));have hR:=zN hR (zl (rb:=w5'.heap.size) 0 (.slice aoR (k+(n - (k+1))) cpR)) (by intro b hb; cases hb; exact z5.out.1);have kX:=zp (j:=0) hbx (.slice aoR (k+(n - (k+1))) cpR);go_simp;have vb:=zg vb z5.out.2.1 0 (.slice aoR (k+(n - (k+1))) cpR);refine kO hK (zf hc2.1 vb) fun hHeld => ?_
 clear hK K;refine wpAnyH_done (by kernel_rfl) ?_ _;have kX:(World.setCell wx ⟨w5'.heap.size,0,none⟩ (.slice aoR (k+(n - (k+1))) cpR)).heap[w5'.heap.size]? = some (.cells #[Value.slice aoR (k+(n - (k+1))) cpR,.slice o5 p q5] 29):=kX;generalize World.setCell wx ⟨w5'.heap.size,0,none⟩ (.slice aoR (k+(n - (k+1))) cpR)=w6 at hR hN kX vb ⊢;generalize k+(n - (k+1))=m at hR kX ⊢;generalize (if c=k+1 then some (⟨b,off,none⟩:Addr) else some ⟨b,off+(k+1)*3,none⟩)=ad;obtain ⟨⟨x0,x1⟩,-⟩:=zU kX;have y0:=zf hc2.1 vb;have y1:=zf hc2.2 vb;have hV:VOwn w6 w2.heap.size aoR m cpR o5 p q5 ⟨v.rows.take k++v.rows.drop (k+1),v.own⟩:=⟨zW hR b25.size,zW hN z5.out.2.2,h.own.byte⟩;have HV:=hide hV;clear hR hN hV hO5;go_wp2_with fail
 refine (zcG w2.heap.size aoR m cpR o5 p q5 _ (some ⟨b,off,none⟩) n c o p q v _ HV.out (h.below (zd b02 vb)) hn hp vb.size).mono ?_;rintro e w7 ⟨a7,n7,c7,o7,p7,q7,rfl,hO7,hb7⟩;obtain ⟨⟨g0,g1⟩,f0,f1⟩:=zU (ze k1 (zd vb hb7));have HB:=hide (zg (zg (zd (zd b02 vb) hb7) b01.size 0 (.slice a7 n7 c7)) b01.size 1 (.slice o7 p7 q7));have HO:=hide ((hO7.set2 (g:=w1.heap.size) z2.out (.slice a7 n7 c7) (.slice o7 p7 q7)).lt (base':=w.heap.size) b02.size);clear hO7;go_wp2;exact bodyPost_ret (v:=.tuple #[.agg #[.slice a7 n7 c7,.slice o7 p7 q7],.bool (orV ⟨v.rows.take k++v.rows.drop (k+1),v.own⟩ v).2]) (by simp [results,Tryz.results185,go_sem, *]) rfl ⟨_,_,_,_,_,_,rfl,HO.out,HB.out⟩

end Go.Proofs.YtcpdkcdfnpcemaaGreat
