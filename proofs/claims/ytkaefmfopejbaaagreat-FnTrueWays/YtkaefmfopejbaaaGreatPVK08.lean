/-
  Packed: VtabCopy QInt WayMem WayStep VtabOr VtabSet VtabRowM BrOwn VtabNewS FdbPutS.
-/
import Derived.Test.YtkaefmfopejbaaaGreatPVFdbOkS
import Derived.Test.YtkaefmfopejbaaaGreatPVVtabOkS
namespace Go.Proofs.YtkaefmfopejbaaaGreat
set_option maxRecDepth 100000
set_option maxHeartbeats 16000000
open Go.RowKit

abbrev q53:Oper:=⟨some 3,.buildSlice 40 0 #[],40,"l09_vlan.go:79",#[],none⟩
abbrev q54:Oper:=⟨some 6,.call ⟨.builtin .append,#[.tmp 3,.tmp 5],#[40,40]⟩,40,"l09_vlan.go:79",#[⟨0,.data⟩,⟨2,.data⟩],none⟩
abbrev q55:Oper:=⟨some 7,.buildSlice 35 0 #[],35,"l09_vlan.go:79",#[],none⟩
abbrev q56:Oper:=⟨some 10,.call ⟨.builtin .append,#[.tmp 7,.tmp 9],#[35,35]⟩,35,"l09_vlan.go:79",#[⟨4,.data⟩,⟨6,.data⟩,⟨3,.chain⟩],none⟩
abbrev q57:Oper:=⟨some 11,.build 42 #[(0,.tmp 6),(1,.tmp 10)],42,"l09_vlan.go:79",#[⟨3,.data⟩,⟨7,.data⟩],none⟩
abbrev q58:Oper:=⟨none,.store 42 (.tmp 2) (.tmp 11),0,"l09_vlan.go:79",#[⟨8,.data⟩,⟨7,.chain⟩,⟨0,.phase⟩,⟨1,.phase⟩,⟨2,.phase⟩,⟨3,.phase⟩,⟨4,.phase⟩,⟨5,.phase⟩,⟨6,.phase⟩,⟨7,.phase⟩,⟨8,.phase⟩],none⟩

def intF:Flat Int where
 k:=1
 cs:=fun x=>[.int .i64 x]
 len:=fun _=>rfl
 pos:=by decide
 one:=fun _ v hv=>by
  simp only [List.mem_cons,List.not_mem_nil,or_false] at hv;subst hv
  rfl

theorem zb4:∀(l:List Int),intF.all l=cI l
 | []=>rfl
 | x::l=>by
  have:=zb4 l
  rw [Flat.all_cons,this]
  rfl

theorem IRow.flat {w:World} {ao:Option Addr} {n c:Nat} {l:List Int} (h:IRow w ao n c l):GRow intF w ao n c l where
 size:=h.size
 le:=h.le
 top:=h.top
 nil:=h.nil
 cell:=by
  rcases h.cell with h0 | ⟨b,off,ha,hc⟩
  ·exact .inl h0
  ·refine .inr ⟨b,off,ha,fun i x hi j v hv => ?_⟩;have hl:=(List.getElem?_eq_some_iff.1 hi).1;have hs:=h.size
   have:=hc i (by omega)
   rw [List.getD_eq_getElem?_getD,hi] at this
   match j,hv with
   | 0,hv =>
    cases hv
    show w.cell? ⟨b,off+i*1+0,none⟩=_
    rw [Nat.mul_one,Nat.add_zero];exact this
   | j+1,hv=>simp [intF] at hv

theorem zeE:(Tryz.prog.info? 167).map (fun i=>(i.zero,i.size,i.bytes))=some (some (.agg #[.int .i64 0,.int .i64 0,.int .i64 0]),vrowF.k,24):=by kernel_rfl

theorem zu {w w':World} {base k:Nat} {e:TypeId} {v:Value} {n:Nat} {xs:List Value} (h:w.ownsRow base e k v n xs) {base2 k2:Nat} {e2:TypeId} {v2:Value} {n2:Nat} {xs2:List Value} (h2:w.ownsRow base2 e2 k2 v2 n2 xs2) (hne:(e:Nat)≠e2) (hg:w.grownBy w' v2.ownBlock):w'.ownsRow base e k v n xs:=by
 refine h.kept hg ?_;obtain ⟨-,h | ⟨g,cap,cur,e1,-,hh,-⟩⟩:=h
 ·rw [h.1]; exact .inl rfl
 ·obtain ⟨-,h2 | ⟨g2,cap2,cur2,e2',-,hh2,-⟩⟩:=h2
  ·rw [h2.1]; exact .inr (by rw [e1]; intro hc; cases hc)
  ·refine .inr (fun hc => ?_);rw [e1,e2'] at hc;have hgg:g=g2:=by simpa [Value.ownBlock] using hc
   subst hgg;rw [hh] at hh2;cases hh2;exact hne rfl

structure VOwn (w:World) (base:Nat) (a:Option Addr) (n c:Nat) (o:Option Addr) (p q:Nat) (v:VT):Prop where
 rows:w.ownsRow base 167 3 (.slice a n c) n (vrowF.all v.rows)
 own:w.ownsRow base 3 1 (.slice o p q) p (cI v.own)
 i64:I64s v.own

theorem VOwn.tab {w:World} {base:Nat} {a:Option Addr} {n c:Nat} {o:Option Addr} {p q:Nat} {v:VT} (h:VOwn w base a n c o p q v):VTab w a n c o p q v:=⟨zA (F:=vrowF) h.rows,zf4 h.own h.i64⟩

theorem zdQ (a:Option Addr) (n c:Nat) (o:Option Addr) (p q:Nat) (v:VT) (w:World) (h:VTab w a n c o p q v) (hn:n≤16777216) (hp:p≤16777216) :
  Calls Tryz.prog 133 #[.agg #[.slice a n c,.slice o p q]] w fun r w'=>∃a' c' o' q',r=.returned (.agg #[.slice a' n c',.slice o' p q'])∧VOwn w' w.heap.size a' n c' o' p q' v∧Below w.heap.size w w':=by
 generalize hw1:w.alloc (Obj.cells #[Value.slice a n c,Value.slice o p q] 42)=w1;generalize hw2:w1.alloc (Obj.cells #[Value.slice none 0 0,Value.slice none 0 0] 42)=w2;have s1:w1.heap.size=w.heap.size+1:=by subst hw1; simp
 have s2:w2.heap.size=w.heap.size+1+1:=by subst hw2; simp [s1]
 have hk1:=zk hw2;have b01:=zb hw1;have vb:Below w1.heap.size w1 w2.drew:=by subst hw2; exact zG (zn _ _)
 have bw:Below w.heap.size w w2:=by subst hw2; exact zc b01 (zn _ _)
 have vv:Below w2.heap.size w2 w2.drew:=zG (Below.refl _ _);have h12:w1.heap.size≤w2.heap.size:=by omega
 have S1:=hide s1;have S2:=hide s2;have H12:=hide h12;have HL:Hid (∀b,some w1.heap.size=some b→b < w2.heap.size):=hide (by intro b hb; cases hb; omega);clear s1 s2 h12;go_enter Tryz.func133,Tryz.ntmps133;go_wp2_with fail
 refine wp_region_held_drew (S:=(fun W=>zcc W w.heap.size 0 (.slice a n c)∧zcc W w.heap.size 1 (.slice o p q))) (by kernel_rfl) (zaA hw1 vb) (fun hHeld => ?_);refine kK 1 ⟨some 4,.fieldAddr 42 (.tmp 1) 0,0,"l09_vlan.go:79",#[],none⟩ ?_;refine kK 2 ⟨some 5,.load 40 (.tmp 4),40,"l09_vlan.go:79",#[⟨1,.data⟩],none⟩ ?_;refine kK 5 ⟨some 8,.fieldAddr 42 (.tmp 1) 1,0,"l09_vlan.go:79",#[],none⟩ ?_;refine kK 6 ⟨some 9,.load 35 (.tmp 8),35,"l09_vlan.go:79",#[⟨5,.data⟩],none⟩ ?_;refine tR [0,4] ?_;refine AllReadyH.cons (o:=q53) rfl (fun K hK => ?_) ?_
 ·go_simp
  first
  | refine zw (K:=K _) (fun wx hk hbx => ?_)
  | refine zq (K:=K _) (fun wx hk hbx => ?_)
  (try have hI:=zi hI hbx);have hR:=zaE vrowF w2 wx 167 _ hk vv.size;have vv:=zc vv hbx;have vb:=zc vb hbx;clear hk hbx;refine kO hK (zaA hw1 vb) fun hHeld => ?_
  clear hK K;refine tR [3,4] ?_;refine AllReadyH.cons (o:=q54) rfl (fun K hK => ?_) ?_
  ·refine zh (F:=vrowF) rfl _ _ 40 167 rfl w2.heap.size Tryz.underlying40 zeE rfl (by decide) _ 0 [] rfl hR a n c v.rows rfl (h.rows.below (zc bw vv)) (by omega) vv.size ?_;intro aohR cphR wx how hrow hgr hbx;(try have hI:=zu hI hR (by decide) hgr);have hR:=how;have vv:=vv.trans hbx;have vb:=vb.trans (hbx.mono H12.out);clear how hrow hgr hbx;simp only [Nat.zero_add,List.nil_append] at hR ⊢;refine kO hK (zaA hw1 vb) fun hHeld => ?_
   clear hK K;refine kR 4 q55 (fun K hK => ?_);go_simp
   first
   | refine zw (K:=K _) (fun wx hk hbx => ?_)
   | refine zq (K:=K _) (fun wx hk hbx => ?_)
   (try have hR:=zi hR hbx);have hI:=zaE intF w2 wx 3 _ hk vv.size;have vv:=zc vv hbx;have vb:=zc vb hbx;clear hk hbx;refine kO hK (zaA hw1 vb) fun hHeld => ?_
   clear hK K;refine kR 7 q56 (fun K hK => ?_);refine zh (F:=intF) rfl _ _ 35 3 rfl w2.heap.size Tryz.underlying35 Tryz.infoI64 rfl (by decide) _ 0 [] rfl hI o p q v.own rfl ((h.own.below (zc bw vv)).flat) (by omega) vv.size ?_;intro aohI cphI wx how hrow hgr hbx;(try have hR:=zu hR hI (by decide) hgr);have hI:=how;have vv:=vv.trans hbx;have vb:=vb.trans (hbx.mono H12.out);clear how hrow hgr hbx;simp only [Nat.zero_add,List.nil_append] at hI ⊢;refine kO hK (zaA hw1 vb) fun hHeld => ?_
   clear hK K;refine kK 8 q57 ?_;refine kR 9 q58 (fun K hK => ?_);obtain ⟨⟨g0,g1⟩,f0,f1⟩:=zbP (za hk1 vv);go_simp;have hR:=zJ (zJ hR (zj (rb:=w1.heap.size) 0 (.slice aohR n cphR)) HL.out) (zj (rb:=w1.heap.size) 1 (.slice aohI p cphI)) HL.out;have hI:=zJ (zJ hI (zj (rb:=w1.heap.size) 0 (.slice aohR n cphR)) HL.out) (zj (rb:=w1.heap.size) 1 (.slice aohI p cphI)) HL.out;have vb:=zy (zy vb (Nat.le_refl _) 0 (.slice aohR n cphR)) (Nat.le_refl _) 1 (.slice aohI p cphI);refine kO hK (zaA hw1 vb) fun hHeld => ?_
   clear hK K;refine wpAnyH_done (by kernel_rfl) ?_ _;have HR:=hide hR;have HI:=hide hI;clear hR hI;go_wp2;refine bodyPost_ret (v:=.agg #[.slice aohR n cphR,.slice aohI p cphI]) (by simp [results,Tryz.results133,go_sem, *]) rfl ⟨_,_,_,_,rfl,⟨zB HR.out bw.size,zB (by rw [← zb4]; exact HI.out) bw.size,h.own.byte⟩,zc b01 vb⟩
  refine AllReadyH.cons (o:=q55) rfl (fun K hK => ?_) ?_
  ·go_simp
   first
   | refine zw (K:=K _) (fun wx hk hbx => ?_)
   | refine zq (K:=K _) (fun wx hk hbx => ?_)
   (try have hR:=zi hR hbx);have hI:=zaE intF w2 wx 3 _ hk vv.size;have vv:=zc vv hbx;have vb:=zc vb hbx;clear hk hbx;refine kO hK (zaA hw1 vb) fun hHeld => ?_
   clear hK K;refine kR 3 q54 (fun K hK => ?_);refine zh (F:=vrowF) rfl _ _ 40 167 rfl w2.heap.size Tryz.underlying40 zeE rfl (by decide) _ 0 [] rfl hR a n c v.rows rfl (h.rows.below (zc bw vv)) (by omega) vv.size ?_;intro aohR cphR wx how hrow hgr hbx;(try have hI:=zu hI hR (by decide) hgr);have hR:=how;have vv:=vv.trans hbx;have vb:=vb.trans (hbx.mono H12.out);clear how hrow hgr hbx;simp only [Nat.zero_add,List.nil_append] at hR ⊢;refine kO hK (zaA hw1 vb) fun hHeld => ?_
   clear hK K;refine kR 7 q56 (fun K hK => ?_);refine zh (F:=intF) rfl _ _ 35 3 rfl w2.heap.size Tryz.underlying35 Tryz.infoI64 rfl (by decide) _ 0 [] rfl hI o p q v.own rfl ((h.own.below (zc bw vv)).flat) (by omega) vv.size ?_;intro aohI cphI wx how hrow hgr hbx;(try have hR:=zu hR hI (by decide) hgr);have hI:=how;have vv:=vv.trans hbx;have vb:=vb.trans (hbx.mono H12.out);clear how hrow hgr hbx;simp only [Nat.zero_add,List.nil_append] at hI ⊢;refine kO hK (zaA hw1 vb) fun hHeld => ?_
   clear hK K;refine kK 8 q57 ?_;refine kR 9 q58 (fun K hK => ?_);obtain ⟨⟨g0,g1⟩,f0,f1⟩:=zbP (za hk1 vv);go_simp;have hR:=zJ (zJ hR (zj (rb:=w1.heap.size) 0 (.slice aohR n cphR)) HL.out) (zj (rb:=w1.heap.size) 1 (.slice aohI p cphI)) HL.out;have hI:=zJ (zJ hI (zj (rb:=w1.heap.size) 0 (.slice aohR n cphR)) HL.out) (zj (rb:=w1.heap.size) 1 (.slice aohI p cphI)) HL.out;have vb:=zy (zy vb (Nat.le_refl _) 0 (.slice aohR n cphR)) (Nat.le_refl _) 1 (.slice aohI p cphI);refine kO hK (zaA hw1 vb) fun hHeld => ?_
   clear hK K;refine wpAnyH_done (by kernel_rfl) ?_ _;have HR:=hide hR;have HI:=hide hI;clear hR hI;go_wp2;refine bodyPost_ret (v:=.agg #[.slice aohR n cphR,.slice aohI p cphI]) (by simp [results,Tryz.results133,go_sem, *]) rfl ⟨_,_,_,_,rfl,⟨zB HR.out bw.size,zB (by rw [← zb4]; exact HI.out) bw.size,h.own.byte⟩,zc b01 vb⟩
  exact AllReadyH.nil
 refine AllReadyH.cons (o:=q55) rfl (fun K hK => ?_) ?_
 ·go_simp
  first
  | refine zw (K:=K _) (fun wx hk hbx => ?_)
  | refine zq (K:=K _) (fun wx hk hbx => ?_)
  (try have hR:=zi hR hbx);have hI:=zaE intF w2 wx 3 _ hk vv.size;have vv:=zc vv hbx;have vb:=zc vb hbx;clear hk hbx;refine kO hK (zaA hw1 vb) fun hHeld => ?_
  clear hK K;refine kR 0 q53 (fun K hK => ?_);go_simp
  first
  | refine zw (K:=K _) (fun wx hk hbx => ?_)
  | refine zq (K:=K _) (fun wx hk hbx => ?_)
  (try have hI:=zi hI hbx);have hR:=zaE vrowF w2 wx 167 _ hk vv.size;have vv:=zc vv hbx;have vb:=zc vb hbx;clear hk hbx;refine kO hK (zaA hw1 vb) fun hHeld => ?_
  clear hK K;refine kR 3 q54 (fun K hK => ?_);refine zh (F:=vrowF) rfl _ _ 40 167 rfl w2.heap.size Tryz.underlying40 zeE rfl (by decide) _ 0 [] rfl hR a n c v.rows rfl (h.rows.below (zc bw vv)) (by omega) vv.size ?_;intro aohR cphR wx how hrow hgr hbx;(try have hI:=zu hI hR (by decide) hgr);have hR:=how;have vv:=vv.trans hbx;have vb:=vb.trans (hbx.mono H12.out);clear how hrow hgr hbx;simp only [Nat.zero_add,List.nil_append] at hR ⊢;refine kO hK (zaA hw1 vb) fun hHeld => ?_
  clear hK K;refine kR 7 q56 (fun K hK => ?_);refine zh (F:=intF) rfl _ _ 35 3 rfl w2.heap.size Tryz.underlying35 Tryz.infoI64 rfl (by decide) _ 0 [] rfl hI o p q v.own rfl ((h.own.below (zc bw vv)).flat) (by omega) vv.size ?_;intro aohI cphI wx how hrow hgr hbx;(try have hR:=zu hR hI (by decide) hgr);have hI:=how;have vv:=vv.trans hbx;have vb:=vb.trans (hbx.mono H12.out);clear how hrow hgr hbx;simp only [Nat.zero_add,List.nil_append] at hI ⊢;refine kO hK (zaA hw1 vb) fun hHeld => ?_
  clear hK K;refine kK 8 q57 ?_;refine kR 9 q58 (fun K hK => ?_);obtain ⟨⟨g0,g1⟩,f0,f1⟩:=zbP (za hk1 vv);go_simp;have hR:=zJ (zJ hR (zj (rb:=w1.heap.size) 0 (.slice aohR n cphR)) HL.out) (zj (rb:=w1.heap.size) 1 (.slice aohI p cphI)) HL.out;have hI:=zJ (zJ hI (zj (rb:=w1.heap.size) 0 (.slice aohR n cphR)) HL.out) (zj (rb:=w1.heap.size) 1 (.slice aohI p cphI)) HL.out;have vb:=zy (zy vb (Nat.le_refl _) 0 (.slice aohR n cphR)) (Nat.le_refl _) 1 (.slice aohI p cphI);refine kO hK (zaA hw1 vb) fun hHeld => ?_
  clear hK K;refine wpAnyH_done (by kernel_rfl) ?_ _;have HR:=hide hR;have HI:=hide hI;clear hR hI;go_wp2;refine bodyPost_ret (v:=.agg #[.slice aohR n cphR,.slice aohI p cphI]) (by simp [results,Tryz.results133,go_sem, *]) rfl ⟨_,_,_,_,rfl,⟨zB HR.out bw.size,zB (by rw [← zb4]; exact HI.out) bw.size,h.own.byte⟩,zc b01 vb⟩
 exact AllReadyH.nil

section
open Go.RowKit

section
variable {P:Program}

theorem zc0 (w:World) (t ty e:TypeId) (i:TypeInfo) (ht:P.underlying t=some (.slice e)) (hi:P.info? e=some i)
  (g off sLen sCap:Nat) (cur:Array Value) (hg:w.heap[g]? = some (.cells cur e (0,0)))
  (a:Addr) (m c:Nat) (news:List Value) (hl:news.length=m*i.size) (hnews:∀j u,news[j]? = some u→w.cell? (a.add j)=some u) (h1:∀u∈news,u.oneCell'=true)
  (hroom:sLen+m≤sCap) (hfit:off+sLen*i.size+news.length≤cur.size) :
  (Builtin.append_ #[t,t] ty #[.slice (some ⟨g,off,none⟩) sLen sCap,.slice (some a) m c]).run P w =
   .ok (.slice (some ⟨g,off,none⟩) (sLen+m) sCap) (w.setRow g (cur.toList.take (off+sLen*i.size)++news++cur.toList.drop (off+sLen*i.size+news.length)).toArray):=by
 have hf:=run_firstCells_some (P:=P) w i.size m a m c news hl hnews;have hst:=run_storeCells_at P g (off+sLen*i.size) e news 0 cur w hg (by simpa using hfit) h1;simp only [Nat.add_zero] at hst
 simp [Builtin.append_,run_underlying ht,sizeOf,typeInfo,hi,Builtin.lenOf,hroom,hf,Addr.add_lit,hst]

def QG {α:Type} (f:α→Value) (w:World) (base:Nat) (T:TypeId) (v:Value) (l:List α):Prop :=
 ∃(g off cap:Nat) (cur:Array Value),v=.slice (some ⟨g,off,none⟩) l.length cap∧base≤g∧w.heap[g]? = some (.cells cur T (0,0))∧l.length≤cap∧cap≤maxLen∧off+cap≤cur.size∧∀j z,l[j]? = some z→cur[off+j]? = some (f z)

def encQ (z:Int):Value:=.int .i64 z
abbrev QOwn (w:World) (base:Nat) (T:TypeId) (v:Value) (l:List Int):Prop:=QG encQ w base T v l

variable {α:Type} {f:α→Value}

theorem QG.lt {w:World} {base:Nat} {T:TypeId} {v:Value} {l:List α} (h:QG f w base T v l):∀k,v.ownBlock=some k→base≤k∧k < w.heap.size:=by
 obtain ⟨g,off,cap,cur,rfl,hb,hg,-⟩:=h;intro k hk;simp only [Value.ownBlock,Option.some.injEq] at hk;subst hk;exact ⟨hb,(Array.getElem?_eq_some_iff.1 hg).1⟩

theorem QG.below {w w':World} {base:Nat} {T:TypeId} {v:Value} {l:List α} (h:QG f w base T v l) (hb:Below w.heap.size w w'):QG f w' base T v l:=by
 obtain ⟨g,off,cap,cur,e,h1,hg,r⟩:=h;exact ⟨g,off,cap,cur,e,h1,(hb.block g (Array.getElem?_eq_some_iff.1 hg).1).trans hg,r⟩

theorem QG.kept {w w':World} {base:Nat} {T:TypeId} {v:Value} {l:List α} (h:QG f w base T v l) {row:Option Nat} (hg:w.grownBy w' row) (hne:∀k,v.ownBlock=some k→row≠some k):QG f w' base T v l:=by
 obtain ⟨g,off,cap,cur,rfl,h1,hh,r⟩:=h;exact ⟨g,off,cap,cur,rfl,h1,(hg.block g (Array.getElem?_eq_some_iff.1 hh).1 (fun e=>hne g rfl e.symm)).trans hh,r⟩

theorem QG.head {w:World} {base:Nat} {T:TypeId} {v:Value} {z:α} {l:List α} (h:QG f w base T v (z::l)):∃g off cap,v=.slice (some ⟨g,off,none⟩) (l.length+1) cap∧l.length+1≤cap∧cap≤maxLen∧w.cell? ⟨g,off,none⟩=some (f z):=by
 obtain ⟨g,off,cap,cur,rfl,h1,hh,h2,h3,h4,hc⟩:=h;refine ⟨g,off,cap,rfl,h2,h3, ?_⟩
 have:=hc 0 z rfl
 simp only [World.cell?,hh]
 simpa using this

theorem QG.rest {w:World} {base:Nat} {T:TypeId} {g off cap:Nat} {z:α} {l:List α} (h:QG f w base T (.slice (some ⟨g,off,none⟩) (l.length+1) cap) (z::l)):QG f w base T (.slice (if cap=1 then some ⟨g,off,none⟩ else some ⟨g,off+1,none⟩) l.length (cap - 1)) l:=by
 obtain ⟨g',off',cap',cur,e,h1,hh,h2,h3,h4,hc⟩:=h;cases e;simp only [List.length_cons] at h2;by_cases h:cap=1
 ·rw [if_pos h];have hl:l=[]:=List.eq_nil_of_length_eq_zero (by omega);subst hl;exact ⟨g,off,cap - 1,cur,rfl,h1,hh,by simp,by omega,by omega,fun j z hj=>by simp at hj⟩
 ·rw [if_neg h];refine ⟨g,off+1,cap - 1,cur,rfl,h1,hh,by omega,by omega,by omega,fun j y hj => ?_⟩
  have:=hc (j+1) y (by simpa using hj)
  rw [show off+1+j=off+(j+1) by omega];exact this

theorem QG.made {w:World} {base g:Nat} {T:TypeId} {z:α} (h:w.heap[g]? = some (.cells #[f z] T)) (hb:base≤g):QG f w base T (.slice (some ⟨g,0,none⟩) 1 1) [z] :=
 ⟨g,0,1,_,rfl,hb,h,Nat.le_refl _,by unfold maxLen; omega,by simp,fun j y hj=>by
  cases j with
  | zero=>simp at hj; subst hj; rfl
  | succ j=>simp at hj⟩

theorem QOwn.made {w:World} {base g:Nat} {T:TypeId} {z:Int} (h:w.heap[g]? = some (.cells #[.int .i64 z] T)) (hb:base≤g):QOwn w base T (.slice (some ⟨g,0,none⟩) 1 1) [z]:=QG.made (f:=encQ) h hb

theorem QOwn.below {w w':World} {base:Nat} {T:TypeId} {v:Value} {l:List Int} (h:QOwn w base T v l) (hb:Below w.heap.size w w'):QOwn w' base T v l:=QG.below h hb
theorem QOwn.kept {w w':World} {base:Nat} {T:TypeId} {v:Value} {l:List Int} (h:QOwn w base T v l) {row:Option Nat} (hg:w.grownBy w' row) (hne:∀k,v.ownBlock=some k→row≠some k):QOwn w' base T v l:=QG.kept h hg hne
theorem QOwn.head {w:World} {base:Nat} {T:TypeId} {v:Value} {z:Int} {l:List Int} (h:QOwn w base T v (z::l)):∃g off cap,v=.slice (some ⟨g,off,none⟩) (l.length+1) cap∧l.length+1≤cap∧cap≤maxLen∧w.cell? ⟨g,off,none⟩=some (.int .i64 z):=QG.head h
theorem QOwn.rest {w:World} {base:Nat} {T:TypeId} {g off cap:Nat} {z:Int} {l:List Int} (h:QOwn w base T (.slice (some ⟨g,off,none⟩) (l.length+1) cap) (z::l)):QOwn w base T (.slice (if cap=1 then some ⟨g,off,none⟩ else some ⟨g,off+1,none⟩) l.length (cap - 1)) l:=QG.rest h

theorem zet (w:World) (base:Nat) (t ty T:TypeId) (i:TypeInfo) (zz:Value) (ht:P.underlying t=some (.slice T)) (hi:P.info? T=some i) (hz:i.zero=some zz) (hsize:i.size=1) (hby:i.bytes=8) (hzs:zz.cells.size=1)
  (v:Value) (l:List α) (hq:QG f w base T v l) (gb ob c:Nat) (y:α) (hy:w.cell? ⟨gb,ob,none⟩=some (f y)) (hf1:(f y).oneCell'=true) (hn:l.length+1≤16777216) (hbase:base≤w.heap.size) :
  ∃v' w',(Builtin.append_ #[t,t] ty #[v,.slice (some ⟨gb,ob,none⟩) 1 c]).run P w=.ok v' w'∧QG f w' base T v' (l++[y])∧w.grownBy w' v.ownBlock∧(v'.ownBlock=v.ownBlock∨v'.ownBlock=some w.heap.size):=by
 obtain ⟨g,off,cap,cur,rfl,h1,hh,h2,h3,h4,hc⟩:=hq;have hnews:∀j u,([f y]:List Value)[j]? = some u→w.cell? ((⟨gb,ob,none⟩:Addr).add j)=some u:=by
  intro j u hj;cases j with
  | zero=>simp at hj; subst hj; simpa [Addr.add_lit] using hy
  | succ j=>simp at hj
 have hone:∀u∈([f y]:List Value),u.oneCell'=true:=by intro u hu; simp at hu; subst hu; exact hf1
 by_cases hroom:l.length+1≤cap
 ·have hr:=zc0 (P:=P) w t ty T i ht hi g off l.length cap cur hh ⟨gb,ob,none⟩ 1 c [f y] (by rw [hsize]; rfl) hnews hone hroom (by rw [hsize]; simp; omega);refine ⟨_,_,hr,⟨g,off,cap,_,by rw [List.length_append]; rfl,h1,setRow_heap w g cur _ T _ hh,by rw [List.length_append]; exact hroom,h3, ?_, ?_⟩,⟨rfl,rfl,rfl,by simp,fun k _ hk=>setRow_other w g k _ (fun e=>hk (by simp [Value.ownBlock,e]))⟩,.inl rfl⟩
  ·simp only [List.size_toArray,List.length_append,List.length_take,List.length_drop,Array.length_toList,List.length_cons,List.length_nil];omega
  ·intro j u hj;rw [hsize,Nat.mul_one];simp only [List.getElem?_toArray];by_cases hjl:j < l.length
   ·rw [List.getElem?_append_left (by simp; omega),List.getElem?_append_left (by simp; omega),List.getElem?_take_of_lt (by omega)];rw [List.getElem?_append_left hjl] at hj
    have:=hc j u hj
    simpa using this
   ·rw [List.getElem?_append_right (by omega)] at hj;have hj0:j=l.length:=by
     have:=(List.getElem?_eq_some_iff.1 hj).1
     simp at this
     omega
    subst hj0
    simp at hj
    subst hj;have hlen:(cur.toList.take (off+l.length)).length=off+l.length:=by have hs:cur.toList.length=cur.size:=Array.length_toList; rw [List.length_take]; omega
    rw [List.getElem?_append_left (by rw [List.length_append,hlen]; simp),List.getElem?_append_right (by rw [hlen]; omega),hlen,Nat.sub_self]
    rfl
 ·have hcl:cap=l.length:=by omega
  subst hcl;have holds:∀j u,(l.map f)[j]? = some u→w.cell? ((⟨g,off,none⟩:Addr).add j)=some u:=by
   intro j u hj;rw [List.getElem?_map] at hj;cases hx:l[j]? with
   | none=>rw [hx] at hj; cases hj
   | some x =>
    rw [hx] at hj;cases hj
    have:=hc j x hx
    simp only [Addr.add_lit,World.cell?,hh]
    simpa using this
  have hr:=run_append_grow (P:=P) w t ty T i zz ht hi hz ⟨g,off,none⟩ l.length l.length (l.map f) (by rw [hsize]; simp) holds ⟨gb,ob,none⟩ 1 c [f y] (by rw [hsize]; rfl) hnews (by omega) (by omega) (growslice_fits (by omega) (by rw [hby]; omega));have hge:=grownCap_ge w (l.length+1) l.length T;have hcm:grownCap w (l.length+1) l.length T≤maxLen:=grownCap_le_maxLen w (l.length+1) l.length T (by unfold maxLen; omega);refine ⟨_,_,hr,⟨w.heap.size,0,_,_,by rw [List.length_append]; rfl,hbase,heap_alloc_new w.drew _,by rw [List.length_append]; exact hge,hcm, ?_, ?_⟩,⟨rfl,rfl,rfl,by simp,fun k hk _=>(zn w.drew _).block k (by simpa using hk)⟩,.inr rfl⟩
  ·simp only [Array.size_append,List.size_toArray,size_zeroCells,hzs,List.length_map,List.length_cons,List.length_nil];omega
  ·intro j u hj;rw [Nat.zero_add,Array.getElem?_append_left (by
    have:=(List.getElem?_eq_some_iff.1 hj).1
    simp at this ⊢
    omega)]
   rw [← Array.getElem?_toList,Array.toList_append,List.toList_toArray,List.toList_toArray,show (l.map f)++[f y]=(l++[y]).map f by simp,List.getElem?_map,hj]
   rfl

theorem za0 (w:World) {ops:Array Oper} {rest:List Oper} {o:Oper} {a:Act} {Q:Exit→Act→World→Prop} (hgd:o.guard=none) (s x:Operand) (t T:TypeId)
  (ho:o.op=Op.call { callee:=Callee.builtin Builtin.append,args:=#[s,x],argTypes:=#[t,t] }) (base:Nat) {zz:Value}
  (ht:P.underlying t=some (TypeDesc.slice T)) (hinfo:(P.info? T).map (fun i=>(i.zero,i.size,i.bytes))=some (some zz,1,8)) (hzs:zz.cells.size=1)
  (v:Value) (l:List α) (hs:a.eval s=v) (hq:QG f w base T v l) (gb ob c:Nat) (y:α) (hx:a.eval x=.slice (some ⟨gb,ob,none⟩) 1 c) (hy:w.cell? ⟨gb,ob,none⟩=some (f y)) (hf1:(f y).oneCell'=true) (hn:l.length+1≤16777216) (hbase:base≤w.heap.size)
  (h:∀v' w',QG f w' base T v' (l++[y])→w.grownBy w' v.ownBlock→(v'.ownBlock=v.ownBlock∨v'.ownBlock=some w.heap.size)→wpList P ops Q rest (a.put o.dst v') w'):wpList P ops Q (o::rest) a w:=by
 obtain ⟨i,hi,hz,hsize,hby⟩:=zce hinfo;obtain ⟨v',w',hr,h2,h3,h4⟩:=zet (P:=P) w base t o.type T i zz ht hi hz hsize hby hzs v l hq gb ob c y hy hf1 hn hbase;refine wpList_plain hgd fun _ hK => ?_
 unfold Oper.wp execOp;simp only [ho,resolve,invoke,builtin,Sem.run_bind,Sem.run_pure,Result.andThen_ok,List.map_toArray,List.map_cons,List.map_nil,hs,hx,hr];exact hK _ _ (h v' w' h2 h3 h4)

theorem zdJ (w:World) {ops:Array Oper} {rest:List Oper} {o:Oper} {a:Act} {Q:Exit→Act→World→Prop} (hgd:o.guard=none) (s x:Operand) (t T:TypeId)
  (ho:o.op=Op.call { callee:=Callee.builtin Builtin.append,args:=#[s,x],argTypes:=#[t,t] }) (base:Nat) {zz:Value}
  (ht:P.underlying t=some (TypeDesc.slice T)) (hinfo:(P.info? T).map (fun i=>(i.zero,i.size,i.bytes))=some (some zz,1,8)) (hzs:zz.cells.size=1)
  (v:Value) (l:List Int) (hs:a.eval s=v) (hq:QOwn w base T v l) (gb ob c:Nat) (y:Int) (hx:a.eval x=.slice (some ⟨gb,ob,none⟩) 1 c) (hy:w.cell? ⟨gb,ob,none⟩=some (.int .i64 y)) (hn:l.length+1≤16777216) (hbase:base≤w.heap.size)
  (h:∀v' w',QOwn w' base T v' (l++[y])→w.grownBy w' v.ownBlock→wpList P ops Q rest (a.put o.dst v') w'):wpList P ops Q (o::rest) a w :=
 za0 (f:=encQ) w hgd s x t T ho base ht hinfo hzs v l hs hq gb ob c y hx hy rfl hn hbase (fun v' w' h1 h2 _=>h v' w' h1 h2)
end

end

section
open Go.RowKit Go.Maps

def ptrT:List TN→Value
 | []=>.pointer none
 | n::_=>.pointer (some ⟨n.b,0,none⟩)

theorem zif (l:List TN):(ptrT l).oneCell'=true:=by
 cases l <;> rfl

def Laid (w:World):List TN→Prop
 | []=>True
 | n::r=>w.heap[n.b]? = some (.cells #[.int .i64 (n.p:Int),.int .i64 (n.o:Int),.int .i64 n.s,ptrT r] 127)∧Laid w r

theorem Laid.keep {w w':World}:∀{l:List TN},Laid w l→(∀(b:Nat) (cs:Array Value),w.heap[b]? = some (.cells cs 127)→w'.heap[b]? = some (.cells cs 127))→Laid w' l
 | [],_,_=>trivial
 | _::_,h,hk=>⟨hk _ _ h.1,Laid.keep h.2 hk⟩

theorem Laid.below {w w':World} {l:List TN} (h:Laid w l) (hb:Below w.heap.size w w'):Laid w' l:=h.keep (fun _ _ k=>za k hb)

theorem Laid.grown {w w':World} {l:List TN} (h:Laid w l) {row:Option Nat} (hg:w.grownBy w' row) (hne:∀j,row=some j→∀cs:Array Value,w.heap[j]? ≠ some (.cells cs 127)):Laid w' l :=
 h.keep (fun b cs k=>(hg.block b (Array.getElem?_eq_some_iff.1 k).1 (fun e=>hne b e.symm cs k)).trans k)

theorem zcN {w w':World} {base:Nat} {v:Value} {ws:List (List TN)} (hq:QG ptrT w base 123 v ws) (hg:w.grownBy w' v.ownBlock) {l:List TN} (h:Laid w l):Laid w' l:=by
 refine h.grown hg (fun j hj cs e => ?_);obtain ⟨g,off,cap,cur,rfl,-,hh,-⟩:=hq;simp only [Value.ownBlock,Option.some.injEq] at hj;subst hj;rw [hh] at e
 simp at e

theorem zaa {w:World} {base k:Nat} {e:TypeId} {v:Value} {n:Nat} {xs:List Value} (h:w.ownsRow base e k v n xs) {p:Nat} {cs:Array Value} {T:TypeId} (hp:w.heap[p]? = some (.cells cs T)) (hT:e≠T):∀i,v.ownBlock=some i→i≠p:=by
 intro i hi e1;subst e1;rcases h.2 with ⟨rfl,_⟩ | ⟨g,cap,cur,rfl,_,hh,_⟩
 ·cases hi
 ·simp only [Value.ownBlock,Option.some.injEq] at hi;subst hi;rw [hh] at hp
  simp at hp
  exact hT hp.2

def trF:Flat (List TN) where
 k:=1
 cs:=fun t=>[ptrT t]
 len:=fun _=>rfl
 pos:=by decide
 one:=fun t v hv=>by
  rw [List.mem_singleton] at hv;subst hv;exact zif t

theorem zgi:(Tryz.prog.info? 123).map (fun i=>(i.zero,i.size,i.bytes))=some (some (.pointer none),trF.k,8):=by kernel_rfl

def hopF:Flat HP where
 k:=3
 cs:=fun h=>[.int .i64 (h.f:Int),.int .i64 (h.t:Int),.int .i64 h.c]
 len:=fun _=>rfl
 pos:=by decide
 one:=fun _ v hv=>by
  simp only [List.mem_cons,List.not_mem_nil,or_false] at hv;rcases hv with rfl | rfl | rfl <;> rfl

theorem ziN:(Tryz.prog.info? 157).map (fun i=>(i.zero,i.size,i.bytes))=some (some (.agg #[.int .i64 0,.int .i64 0,.int .i64 0]),hopF.k,24):=by kernel_rfl

theorem zjg {w:World} {ao:Option Addr} {len cap:Nat} {l:List HP} (h:GRow hopF w ao len cap l) (i:Nat) (hi:i < len):∃(x:HP) (b off:Nat),l[i]? = some x∧ao=some ⟨b,off,none⟩∧w.cell? ⟨b,off+i*3,none⟩=some (.int .i64 (x.f:Int))∧w.cell? ⟨b,off+i*3+1,none⟩=some (.int .i64 (x.t:Int))∧w.cell? ⟨b,off+i*3+2,none⟩=some (.int .i64 x.c):=by
 obtain ⟨x,b,off,hx,ha,hc⟩:=h.at i hi;exact ⟨x,b,off,hx,ha,hc 0 _ rfl,hc 1 _ rfl,hc 2 _ rfl⟩

theorem tr_at {w:World} {ao:Option Addr} {len cap:Nat} {l:List (List TN)} (h:GRow trF w ao len cap l) (i:Nat) (hi:i < len):∃(x:List TN) (b off:Nat),l[i]? = some x∧ao=some ⟨b,off,none⟩∧w.cell? ⟨b,off+i,none⟩=some (ptrT x):=by
 obtain ⟨x,b,off,hx,ha,hc⟩:=h.at i hi;exact ⟨x,b,off,hx,ha,by have:=hc 0 _ rfl; rw [show trF.k=1 from rfl,Nat.mul_one,Nat.add_zero] at this; exact this⟩

theorem ziH {n:Int} (h : -9223372036854775808≤n∧n≤9223372036854775807):(Lit.int .i64 n).wf=true:=by
 simp [Lit.wf,IntKind.min,IntKind.max,IntKind.bits,IntKind.signed]
 omega

theorem zi2:laidOutB Tryz.prog=true:=by kernel_rfl
theorem zjw:(125:TypeId) < Tryz.prog.types.size:=of_decide_eq_true (by kernel_rfl)
theorem zi3:(match Tryz.prog.underlying 125 with | some (.array _ _) | some (.struct _)=>true | _=>false)=true:=by kernel_rfl
theorem zjv:Keyed Tryz.prog 125:=Keyed.of_law (deep_law_laid zi2 (m:=2) (by omega) zjw (by kernel_rfl) zi3)

def spV (a:Nat × Nat):Value:=.agg #[.int .i64 (a.1:Int),.int .i64 (a.2:Int)]
def SpOk (a:Nat × Nat):Prop:=a.1≤1000∧a.2≤1000

theorem zju (a:Nat × Nat) (h:SpOk a):∃l,keyOf Tryz.prog 125 (spV a)=some l:=by
 have h0:=h.1;have h00:=h.2;have w1:=ziH (n:=(a.1:Int)) ⟨by omega,by omega⟩;have w2:=ziH (n:=(a.2:Int)) ⟨by omega,by omega⟩;have h1:Tryz.prog.keyType 125=true:=by kernel_rfl
 have hc3:Tryz.prog.cellsOf 125=2:=by kernel_rfl
 have hc1:Tryz.prog.cellsOf 3=1:=by kernel_rfl
 have h2:(spV a).formed Tryz.prog 125=true:=by simp [spV,Value.formed,Tryz.underlying125,hc3]
 obtain ⟨q,hq⟩:∃q,Tryz.prog.types.size=q+1:=⟨Tryz.prog.types.size - 1,by have:0 < Tryz.prog.types.size:=of_decide_eq_true (by kernel_rfl); omega⟩;have h3:Tryz.prog.keyLits (Tryz.prog.types.size+1) 125 (spV a).cells.toList=some [.int .i64 (a.1:Int),.int .i64 (a.2:Int)]:=by
  rw [hq]
  simp [Program.keyLits,spV,Value.cells,Tryz.underlying125,Tryz.underlying3,hc3,hc1,w1,w2]
 refine ⟨.string (keyBytes [.int .i64 (a.1:Int),.int .i64 (a.2:Int)]), ?_⟩;unfold keyOf;rw [Tryz.underlying125];simp only [h1,h2,h3,Bool.and_self,if_true,Option.map_some]

theorem zi1 (a b:Nat × Nat) (h:spV a=spV b):a=b:=by
 obtain ⟨a1,a2⟩:=a;obtain ⟨b1,b2⟩:=b
 simp [spV] at h
 obtain ⟨h1,h2⟩:=h;have h1:a1=b1:=by omega
 have h2:a2=b2:=by omega
 rw [h1,h2]

def mS:MK Tryz.prog (Nat × Nat) Int where
 T:=128
 K:=125
 E:=3
 law:=zjv
 und:=Tryz.underlying128
 kv:=spV
 vv:=fun n=>.int .i64 n
 ok:=SpOk
 key:=zju
 inj:=zi1
 z:=0
 zero:=fun _=>by kernel_rfl

theorem zf6 {w w':World} {b n:Nat} {g:Nat × Nat→Option Int} (hm:MapIs mS w b n g) (hg:w.grownBy w' (some b)) {l:List TN} (h:Laid w l):Laid w' l:=by
 refine h.grown hg (fun j hj cs e => ?_);cases hj;obtain ⟨es,clock,hb,-⟩:=hm;rw [hb] at e;cases e

theorem zib:∀(o:Fin 64) (y:Fin 6),bits .or .i64 (o.val:Int) (2 ^ y.val)=((o.val ||| 2 ^ y.val:Nat):Int):=by decide +kernel
theorem ziX {o y:Nat} (ho:o < 64) (hy:y < 6):bits .or .i64 (o:Int) (2 ^ y)=((o ||| 2 ^ y:Nat):Int):=zib ⟨o,ho⟩ ⟨y,hy⟩

end

theorem zc2 {ops:Array Oper} {rest:List Oper} {o:Oper} {a:Act} {Q:Exit→Act→World→Prop} (w:World) (hg:o.guard=none) (m x v:Operand) (hop:o.op=Op.insert 128 m x v) (b n:Nat) (g:Nat × Nat→Option Int) (p q:Nat) (s:Int)
  (hm:a.eval m=.map (some b)) (h:MapIs mS w b n g) (hn:n < maxLen) (hx:a.eval x=.agg #[.int .i64 (p:Int),.int .i64 (q:Int)]) (hv:a.eval v=.int .i64 s) (hok:SpOk (p,q))
  (hK:∀w',MapIs mS w' b (n+1) (upd g (p,q) (some s))→w.grownBy w' (some b)→wpList Tryz.prog ops Q rest (a.put o.dst undef) w') :
  wpList Tryz.prog ops Q (o::rest) a w:=by
 refine wpList_plain hg fun K' hK' => ?_
 obtain ⟨w',hrun,h1,h2,-⟩:=h.store hn hok s;have hrun:(Instr.mapUpdate 128 (.map (some b)) (.agg #[.int .i64 (p:Int),.int .i64 (q:Int)]) (.int .i64 s)).run Tryz.prog w=.ok () w':=hrun;unfold Oper.wp
 simp [execOp,hop,hm,hx,hv,hrun,Result.andThen]
 exact hK' _ _ (hK w' h1 h2)

theorem zbk {ops:Array Oper} {rest:List Oper} {o:Oper} {a:Act} {Q:Exit→Act→World→Prop} (w:World) (hg:o.guard=none) (m x:Operand) (hop:o.op=Op.lookup 128 m x true) (b n:Nat) (g:Nat × Nat→Option Int) (p q:Nat)
  (hm:a.eval m=.map (some b)) (h:MapIs mS w b n g) (hx:a.eval x=.agg #[.int .i64 (p:Int),.int .i64 (q:Int)]) (hok:SpOk (p,q))
  (hK:wpList Tryz.prog ops Q rest (a.put o.dst (.tuple #[.int .i64 ((g (p,q)).getD 0),.bool (g (p,q)).isSome])) w) :
  wpList Tryz.prog ops Q (o::rest) a w:=by
 refine wpList_plain hg fun K' hK' => ?_
 have hrun:=h.look true hok;have hrun:(Instr.lookup 128 (.map (some b)) (.agg #[.int .i64 (p:Int),.int .i64 (q:Int)]) true).run Tryz.prog w=.ok (.tuple #[.int .i64 ((g (p,q)).getD 0),.bool (g (p,q)).isSome]) w:=hrun;unfold Oper.wp
 simp [execOp,hop,hm,hx,hrun,Result.andThen]
 exact hK' _ _ hK

theorem zdK {ops:Array Oper} {rest:List Oper} {o:Oper} {a:Act} {Q:Exit→Act→World→Prop} (w:World) (hg:o.guard=none) (m:Operand) (hop:o.op=Op.range 128 m) (b n:Nat) (g:Nat × Nat→Option Int)
  (hm:a.eval m=.map (some b)) (h:MapIs mS w b n g)
  (hK:∀w' cnt,Ranging mS w' b w.heap.size n g (fun k=>(g k).isSome) cnt→Below w.heap.size w w'→wpList Tryz.prog ops Q rest (a.put o.dst (.pointer (some ⟨w.heap.size,0,none⟩))) w') :
  wpList Tryz.prog ops Q (o::rest) a w:=by
 refine wpList_plain hg fun K' hK' => ?_
 obtain ⟨w',cnt,hrun,r1,r2,-⟩:=h.range;have hrun:(Instr.range 128 (.map (some b))).run Tryz.prog w=.ok (.pointer (some ⟨w.heap.size,0,none⟩)) w':=hrun;unfold Oper.wp
 simp [execOp,hop,hm,hrun,Result.andThen]
 exact hK' _ _ (hK w' cnt r1 r2)

structure NxP where
 y:Nat × Nat
 v:Int
 w:World
 cnt:Nat

structure NxPOk (w:World) (b r n:Nat) (g:Nat × Nat→Option Int) (left:Nat × Nat→Bool) (cnt:Nat) (s:NxP):Prop where
 lf:left s.y=true
 gt:g s.y=some s.v
 rg:Ranging mS s.w b r n g (upd left s.y false) s.cnt
 lt:s.cnt < cnt
 gr:w.grownBy s.w (some r)
 en:(Instr.entry (.pointer (some ⟨r,0,none⟩))).run Tryz.prog s.w=.ok (.tuple #[.agg #[.int .i64 (s.y.1:Int),.int .i64 (s.y.2:Int)],.int .i64 s.v]) s.w

def zhm (left:Nat × Nat→Bool):Prop:=∀k,left k=false

theorem zdR {ops:Array Oper} {rest:List Oper} {o:Oper} {a:Act} {Q:Exit→Act→World→Prop} (w:World) (hg:o.guard=none) (it:Operand) (hop:o.op=Op.next it false) (b r n:Nat) (g:Nat × Nat→Option Int) (left:Nat × Nat→Bool) (cnt:Nat)
  (hit:a.eval it=.pointer (some ⟨r,0,none⟩)) (h:Ranging mS w b r n g left cnt)
  (hDone:zhm left→wpList Tryz.prog ops Q rest (a.put o.dst (.tuple #[.bool false])) w)
  (hMore:∀s:NxP,NxPOk w b r n g left cnt s→wpList Tryz.prog ops Q rest (a.put o.dst (.tuple #[.bool true,.agg #[.int .i64 (s.y.1:Int),.int .i64 (s.y.2:Int)],.int .i64 s.v])) s.w) :
  wpList Tryz.prog ops Q (o::rest) a w:=by
 refine wpList_plain hg fun K' hK' => ?_
 unfold Oper.wp;rcases h.next o.type with ⟨_,hl,hrun⟩ | ⟨y,v,w',cnt',h1,h2,h3,hrun,h4,h5,h6,h7,h8⟩
 ·simp [execOp,hop,hit,hrun,Result.andThen]
  exact hK' _ _ (hDone hl)
 ·simp [execOp,hop,hit,hrun,Result.andThen]
  exact hK' _ _ (hMore ⟨y,v,w',cnt'⟩ ⟨h2,h3,h4,h5,h6,h8⟩)

structure LMem (w2 wr:World) (bm cnt:Nat) (v:Value) (work:List (List TN)) (g:Nat × Nat→Option Int) (ha:Option Addr) (hc:Nat) (H:List HP):Prop where
 q:QG ptrT wr w2.heap.size 123 v work
 map:MapIs mS wr bm cnt g
 laid:∀t∈work,Laid wr t
 hops:wr.ownsRow w2.heap.size 157 3 (.slice ha H.length hc) H.length (hopF.all H)
 bel:Below w2.heap.size w2 wr
 bm:w2.heap.size≤bm

theorem LMem.below {w2 wr w':World} {bm cnt:Nat} {v:Value} {work:List (List TN)} {g:Nat × Nat→Option Int} {ha:Option Addr} {hc:Nat} {H:List HP} (h:LMem w2 wr bm cnt v work g ha hc H) (hb:Below wr.heap.size wr w'):LMem w2 w' bm cnt v work g ha hc H :=
 ⟨h.q.below hb,h.map.kept hb,fun t ht=>(h.laid t ht).below hb,zi h.hops hb,zc h.bel hb,h.bm⟩

theorem za3 {w:World} {b n:Nat} {g:Nat × Nat→Option Int} (h:MapIs mS w b n g) (cs:Array Value) (T:TypeId):w.heap[b]? ≠ some (.cells cs T):=by
 obtain ⟨es,clock,hb,-⟩:=h;rw [hb];intro e;cases e

theorem zge {w:World} {b n base:Nat} {g:Nat × Nat→Option Int} {v:Value} {l:List (List TN)} {T:TypeId} (hq:QG ptrT w base T v l) (h:MapIs mS w b n g):∀k,v.ownBlock=some k→b≠k:=by
 obtain ⟨gg,off,cap,cur,rfl,-,hh,-⟩:=hq;intro k hk e;simp only [Value.ownBlock,Option.some.injEq] at hk;subst hk;subst e;exact za3 h _ _ hh

theorem zd3 {w:World} {base k b n m:Nat} {g:Nat × Nat→Option Int} {e:TypeId} {v:Value} {xs:List Value} (h:w.ownsRow base e k v m xs) (hm:MapIs mS w b n g):∀i,v.ownBlock=some i→i≠b:=by
 intro i hi e1;subst e1;rcases h.2 with ⟨rfl,_⟩ | ⟨gg,cap,cur,rfl,_,hh,_⟩
 ·cases hi
 ·simp only [Value.ownBlock,Option.some.injEq] at hi;subst hi;exact za3 hm _ _ hh

theorem LMem.store {w2 wr w':World} {bm cnt cnt':Nat} {v:Value} {work:List (List TN)} {g g':Nat × Nat→Option Int} {ha:Option Addr} {hc:Nat} {H:List HP} (h:LMem w2 wr bm cnt v work g ha hc H) (hm:MapIs mS w' bm cnt' g') (hg:wr.grownBy w' (some bm)):LMem w2 w' bm cnt' v work g' ha hc H :=
 ⟨h.q.kept hg (fun k hk e=>by cases e; exact zge h.q h.map bm hk rfl),hm,fun t ht=>zf6 h.map hg (h.laid t ht),zo h.hops hg (zd3 h.hops h.map),h.bel.grown hg h.bel.size (fun k e=>by cases e; exact h.bm),h.bm⟩

theorem LMem.push {w2 wr w':World} {bm cnt:Nat} {v v':Value} {work:List (List TN)} {g:Nat × Nat→Option Int} {ha:Option Addr} {hc:Nat} {H:List HP} (h:LMem w2 wr bm cnt v work g ha hc H) {t:List TN} (ht:Laid wr t) (hq:QG ptrT w' w2.heap.size 123 v' (work++[t])) (hg:wr.grownBy w' v.ownBlock):LMem w2 w' bm cnt v' (work++[t]) g ha hc H:=by
 have hqq:=h.q;obtain ⟨gg,off,cap,cur,rfl,hge,hh,-⟩:=h.q;refine ⟨hq,h.map.grown hg (fun e=>by have e:=Option.some.inj e; exact zge hqq h.map gg rfl e.symm),fun u hu => ?_,zo h.hops hg (zaa h.hops hh (by decide)),h.bel.grown hg h.bel.size (fun k e=>by cases e; exact hge),h.bm⟩;rcases List.mem_append.1 hu with hu | hu
 ·exact zcN hqq hg (h.laid u hu)
 ·rw [List.mem_singleton] at hu;subst hu;exact zcN hqq hg ht

theorem LMem.rest {w2 wr:World} {bm cnt:Nat} {v v':Value} {t:List TN} {work:List (List TN)} {g:Nat × Nat→Option Int} {ha:Option Addr} {hc:Nat} {H:List HP} (h:LMem w2 wr bm cnt v (t::work) g ha hc H) (hq:QG ptrT wr w2.heap.size 123 v' work):LMem w2 wr bm cnt v' work g ha hc H :=
 ⟨hq,h.map,fun u hu=>h.laid u (List.mem_cons_of_mem _ hu),h.hops,h.bel,h.bm⟩

theorem zg1 {c0 c1 W0 W1 W2 wt j:Nat} (h1:c1≤c0+j) (h2:20*W1≤20*W0+j*wt) (h3:W1=wt+W2) (hj:j≤18) (hw:1≤wt) (h0:0 < j→20≤wt):W2 < W0∧c1+9*W2≤c0+9*W0:=by
 have hm:j*wt≤18*wt:=Nat.mul_le_mul_right _ hj;by_cases hz:j=0
 ·subst hz;omega
 ·have:=h0 (by omega)
  omega

theorem VOwn.below {w w':World} {base:Nat} {a:Option Addr} {n c:Nat} {o:Option Addr} {p q:Nat} {v:VT} (h:VOwn w base a n c o p q v) (hb:Below w.heap.size w w'):VOwn w' base a n c o p q v :=
 ⟨zi h.rows hb,zi h.own hb,h.i64⟩

theorem VOwn.lt {w:World} {base base':Nat} {a:Option Addr} {n c:Nat} {o:Option Addr} {p q:Nat} {v:VT} (h:VOwn w base a n c o p q v) (hle:base'≤base):VOwn w base' a n c o p q v :=
 ⟨zB h.rows hle,zB h.own hle,h.i64⟩

theorem VOwn.set2 {w:World} {base:Nat} {a:Option Addr} {n c:Nat} {o:Option Addr} {p q:Nat} {v:VT} (h:VOwn w base a n c o p q v) {g:Nat} (hg:g < base) (u1 u2:Value):VOwn ((w.setCell ⟨g,0,none⟩ u1).setCell ⟨g,1,none⟩ u2) base a n c o p q v:=by
 have hl:∀b,some g=some b→b < base:=by intro b hb; cases hb; exact hg
 exact ⟨zJ (zJ h.rows (zj (rb:=g) 0 u1) hl) (zj (rb:=g) 1 u2) hl,zJ (zJ h.own (zj (rb:=g) 0 u1) hl) (zj (rb:=g) 1 u2) hl,h.i64⟩

theorem VOwn.len {w:World} {base:Nat} {a:Option Addr} {n c:Nat} {o:Option Addr} {p q:Nat} {v:VT} (h:VOwn w base a n c o p q v):v.rows.length=n∧v.own.length=p:=⟨h.tab.rows.size,h.tab.own.size⟩

theorem zt {w:World} {base k:Nat} {e:TypeId} {v:Value} {n:Nat} {xs:List Value} (h:w.ownsRow base e k v n xs) {X:Nat} {cs:Array Value} {T:TypeId} (hX:w.heap[X]? = some (.cells cs T)) (hne:(e:Nat)≠T):∀b,v.ownBlock=some b→b≠X:=by
 obtain ⟨-,h | ⟨g,cap,cur,rfl,-,hh,-⟩⟩:=h
 ·rw [h.1]; intro b hb; cases hb
 ·intro b hb e
  have:g=b:=by simpa [Value.ownBlock] using hb
  subst this e;rw [hh] at hX;cases hX;exact hne rfl

structure BrOwn (w:World) (base:Nat) (a:Option Addr) (n c:Nat) (fa:Option Addr) (fn fc:Nat) (ra:Option Addr) (rn rc:Nat) (oa:Option Addr) (on oc:Nat) (B:BR):Prop where
 ports:w.ownsRow base 53 8 (.slice a n c) n (ptF.all B.ports)
 f:w.ownsRow base 145 5 (.slice fa fn fc) fn (fentF.all B.f)
 v:VOwn w base ra rn rc oa on oc B.v

theorem BrOwn.row {w:World} {base:Nat} {a:Option Addr} {n c:Nat} {fa:Option Addr} {fn fc:Nat} {ra:Option Addr} {rn rc:Nat} {oa:Option Addr} {on oc:Nat} {B:BR} (h:BrOwn w base a n c fa fn fc ra rn rc oa on oc B):BrRow w a n c fa fn fc ra rn rc oa on oc B :=
 ⟨zA (F:=ptF) h.ports,zA (F:=fentF) h.f,h.v.tab⟩

theorem BrOwn.below {w w':World} {base:Nat} {a:Option Addr} {n c:Nat} {fa:Option Addr} {fn fc:Nat} {ra:Option Addr} {rn rc:Nat} {oa:Option Addr} {on oc:Nat} {B:BR} (h:BrOwn w base a n c fa fn fc ra rn rc oa on oc B) (hb:Below w.heap.size w w'):BrOwn w' base a n c fa fn fc ra rn rc oa on oc B :=
 ⟨zi h.ports hb,zi h.f hb,h.v.below hb⟩

theorem BrOwn.lt {w:World} {base base':Nat} {a:Option Addr} {n c:Nat} {fa:Option Addr} {fn fc:Nat} {ra:Option Addr} {rn rc:Nat} {oa:Option Addr} {on oc:Nat} {B:BR} (h:BrOwn w base a n c fa fn fc ra rn rc oa on oc B) (hle:base'≤base):BrOwn w base' a n c fa fn fc ra rn rc oa on oc B :=
 ⟨zB h.ports hle,zB h.f hle,h.v.lt hle⟩

theorem BrOwn.apart {w w':World} {base:Nat} {a:Option Addr} {n c:Nat} {fa:Option Addr} {fn fc:Nat} {ra:Option Addr} {rn rc:Nat} {oa:Option Addr} {on oc:Nat} {B:BR} (h:BrOwn w base a n c fa fn fc ra rn rc oa on oc B) {row:Option Nat} (hg:w.grownBy w' row) (hlt:∀b,row=some b→b < base):BrOwn w' base a n c fa fn fc ra rn rc oa on oc B :=
 ⟨zJ h.ports hg hlt,zJ h.f hg hlt,⟨zJ h.v.rows hg hlt,zJ h.v.own hg hlt,h.v.i64⟩⟩

theorem BrOwn.boxed {w:World} {base:Nat} {a:Option Addr} {n c:Nat} {fa:Option Addr} {fn fc:Nat} {ra:Option Addr} {rn rc:Nat} {oa:Option Addr} {on oc:Nat} {B:BR} (h:BrOwn w base a n c fa fn fc ra rn rc oa on oc B) {X:Nat} {cs:Array Value} (hX:w.heap[X]? = some (.cells cs 44)) (j:Nat) (u:Value):BrOwn (w.setCell ⟨X,j,none⟩ u) base a n c fa fn fc ra rn rc oa on oc B :=
 ⟨zo h.ports (zj (rb:=X) j u) (zt h.ports hX (by decide)),zo h.f (zj (rb:=X) j u) (zt h.f hX (by decide)),
  ⟨zo h.v.rows (zj (rb:=X) j u) (zt h.v.rows hX (by decide)),zo h.v.own (zj (rb:=X) j u) (zt h.v.own hX (by decide)),h.v.i64⟩⟩

theorem BrOwn.newPorts {w w':World} {base:Nat} {a:Option Addr} {n c:Nat} {fa:Option Addr} {fn fc:Nat} {ra:Option Addr} {rn rc:Nat} {oa:Option Addr} {on oc:Nat} {B:BR} (h:BrOwn w base a n c fa fn fc ra rn rc oa on oc B) (hg:w.grownBy w' (Value.slice a n c).ownBlock) {a':Option Addr} {n' c':Nat} {l:List PT} (hp:w'.ownsRow base 53 8 (.slice a' n' c') n' (ptF.all l)) :
  BrOwn w' base a' n' c' fa fn fc ra rn rc oa on oc { B with ports:=l } :=
 ⟨hp,zu h.f h.ports (by decide) hg,⟨zu h.v.rows h.ports (by decide) hg,zu h.v.own h.ports (by decide) hg,h.v.i64⟩⟩

theorem BrOwn.putF {w w':World} {base:Nat} {a:Option Addr} {n c:Nat} {fa:Option Addr} {fn fc:Nat} {ra:Option Addr} {rn rc:Nat} {oa:Option Addr} {on oc:Nat} {B:BR} (h:BrOwn w base a n c fa fn fc ra rn rc oa on oc B) (hb:Below w.heap.size w w') {fa':Option Addr} {fn' fc':Nat} {l:List FE} (hp:w'.ownsRow base 145 5 (.slice fa' fn' fc') fn' (fentF.all l)):BrOwn w' base a n c fa' fn' fc' ra rn rc oa on oc { B with f:=l } :=
 ⟨(h.below hb).ports,hp,(h.below hb).v⟩

theorem box11 {w:World} {g:Nat} {cs:Array Value} {T:TypeId} (h:w.heap[g]? = some (.cells cs T)) (j:Nat) (u:Value):(w.setCell ⟨g,j,none⟩ u).heap[g]? = some (.cells (cs.setIfInBounds j u) T):=zD (j:=j) h u

def zb1 (ports:Int):VT:=if (decide (1≤ports) && decide (ports≤6))=true then ⟨[⟨1,allOf ports.toNat,allOf ports.toNat⟩],List.replicate ports.toNat 1⟩ else ⟨[],[]⟩

theorem zgU {ports:Int} (h:(decide (1≤ports) && decide (ports≤6))=false):zb1 ports=⟨[],[]⟩:=by
 unfold zb1;rw [h,if_neg Bool.false_ne_true]
theorem zfT {p:Nat} (h:(decide (1≤(p:Int)) && decide ((p:Int)≤6))=true):zb1 p=⟨[⟨1,allOf p,allOf p⟩],List.replicate p 1⟩:=by
 unfold zb1;rw [if_pos h,Int.toNat_natCast]

theorem zia (k:Nat):I64s (List.replicate k 1):=by
 intro z hz;rw [List.eq_of_mem_replicate hz];exact ⟨by decide,by decide⟩

theorem zcR {α:Type} (F:Flat α) {w:World} {g base:Nat} {x:α} {cs:Array Value} {T:TypeId} (h:w.heap[g]? = some (.cells cs T)) (hc:cs.toList=F.cs x) (hb:base≤g):w.ownsRow base T F.k (.slice (some ⟨g,0,none⟩) 1 1) 1 (F.all [x]):=by
 have hl:cs.toList.length=F.k:=by rw [hc,F.len]
 refine ⟨by rw [F.all_length]; rfl,.inr ⟨g,1,cs,rfl,hb,h,Nat.le_refl _,by unfold maxLen; omega, ?_, ?_⟩⟩
 ·have:=hl
  simp at this
  rw [this,Nat.one_mul]
 ·rw [F.all_one,Nat.one_mul,← hc,← hl,List.take_length]

theorem zgn (w:World) (base:Nat):VOwn w base none 0 0 none 0 0 ⟨[],[]⟩:=⟨World.ownsRow_nil _ _ _ _,World.ownsRow_nil _ _ _ _,(by intro z hz; cases hz)⟩

theorem zc1 (ports:Int) (w:World) :
  Calls Tryz.prog 97 #[.int .i64 ports] w fun e w'=>∃a n c o p q,e=.returned (.agg #[.slice a n c,.slice o p q])∧VOwn w' w.heap.size a n c o p q (zb1 ports)∧Below w.heap.size w w':=by
 generalize hw1:w.alloc (Obj.cells #[Value.slice none 0 0,Value.slice none 0 0] 42)=w1;have b01:=zb hw1;have k0:=zk hw1;have z1:Hid (w.heap.size < w1.heap.size):=hide (by rw [← hw1]; simp);cases hin:(decide (1≤ports) && decide (ports≤6))
 ·rw [zgU hin];have HIN:=hide hin;clear hin;obtain ⟨⟨g0,g1⟩,f0,f1⟩:=zbP k0;have HB:=hide (zy (zy b01 (Nat.le_refl _) 0 (.slice none 0 0)) (Nat.le_refl _) 1 (.slice none 0 0));go_enter Tryz.func97,Tryz.ntmps97;go_wp2_with (refine (zf ports 1 6 _).mono ?_; rintro r w2 ⟨rfl,e2⟩; obtain rfl:=e2.symm; rw [HIN.out])
  exact bodyPost_ret (v:=.agg #[.slice none 0 0,.slice none 0 0]) (by simp [results,Tryz.results97,go_sem, *]) rfl ⟨_,_,_,_,_,_,rfl,zgn _ _,HB.out⟩
 ·obtain ⟨p,rfl⟩:∃p:Nat,ports=(p:Int):=⟨ports.toNat,by simp at hin; omega⟩;rw [zfT hin];have HIN:=hide hin;have hp:1≤(p:Int)∧(p:Int)≤6:=by simpa using hin
  clear hin;generalize hw2:w1.alloc (Obj.cells #[Value.int .i64 1,Value.int .i64 (allOf p),Value.int .i64 (allOf p)] 167)=w2;have b12:=zb hw2;have k1:=zk hw2;generalize hwz:w2.alloc (Obj.cells #[Value.slice none 0 0,Value.slice none 0 0] 42)=wz;have b2z:=zb hwz;have kz:=zk hwz;obtain ⟨⟨j0,j1⟩,j2,j3⟩:=zbP kz;generalize hw3:(wz.setCell ⟨w2.heap.size,0,none⟩ (Value.slice (some ⟨w1.heap.size,0,none⟩) 1 1)).setCell ⟨w2.heap.size,1,none⟩ (Value.slice none 0 0)=w3;have b23:Below w2.heap.size w2 w3:=by subst hw3; exact zy (zy b2z (Nat.le_refl _) _ _) (Nat.le_refl _) _ _
  have k2:w3.heap[w2.heap.size]? = some (.cells #[.slice (some ⟨w1.heap.size,0,none⟩) 1 1,.slice none 0 0] 42):=by
   have h1:=zD (j:=0) kz (Value.slice (some ⟨w1.heap.size,0,none⟩) 1 1);have h2:=zD (j:=1) h1 (Value.slice none 0 0);rw [hw3] at h2;exact h2
  have hR:w3.ownsRow w1.heap.size 167 3 (.slice (some ⟨w1.heap.size,0,none⟩) 1 1) 1 (vrowF.all [⟨1,allOf p,allOf p⟩]):=zi (zcR vrowF (x:=⟨1,allOf p,allOf p⟩) k1 rfl (Nat.le_refl _)) b23;have b13:=zc b12 b23;have hall:=zhI p hp.1 hp.2;have X2:Hid (w1.heap.size≤w2.heap.size):=hide b12.size;have hwp:IntKind.u64.wrap (p:Int)=(p:Int):=by rw [IntKind.wrap_u64]; omega
  go_enter Tryz.func97,Tryz.ntmps97;go_wp2_with (refine (zf (p:Int) 1 6 _).mono ?_; rintro r wy ⟨rfl,ey⟩; obtain rfl:=ey.symm; rw [HIN.out])
  go_wp2;rw [hall];clear j0 j1 j2 j3
  go_loopw [5] (fun i wr=>∃(k:Nat) (o:Option Addr) (q:Nat),k≤p∧i=.int .i64 k∧wr.heap[w2.heap.size]? = some (.cells #[.slice (some ⟨w1.heap.size,0,none⟩) 1 1,.slice o k q] 42)∧wr.ownsRow w1.heap.size 167 3 (.slice (some ⟨w1.heap.size,0,none⟩) 1 1) 1 (vrowF.all [⟨1,allOf p,allOf p⟩])∧wr.ownsRow w1.heap.size 3 1 (.slice o k q) k (intF.all (List.replicate k 1))∧Below w1.heap.size w1 wr) (fun i _=>p - (intOf i).toNat)
  case atStart=>exact ⟨0,none,0,Nat.zero_le _,rfl,k2,hR,World.ownsRow_nil _ _ _ _,b13⟩
  case round =>
   obtain ⟨k,o,q,hk,rfl,kX,hRr,hI,hb⟩:=hrel;by_cases hlt:k < p
   ·obtain ⟨⟨x0,x1⟩,-⟩:=zbP kX;generalize hwa:wr.alloc (Obj.cells #[Value.int .i64 1] 3)=wa;have bra:=zb hwa;have ka:=zk hwa;have gone:GRow intF wa (some ⟨wr.heap.size,0,none⟩) 1 1 [1]:=zA (F:=intF) (zcR intF (x:=1) (base:=0) ka rfl (Nat.zero_le _));have hba:=zc hb bra;have HR2:=hide (zi hRr bra);have hI2:=zi hI bra;have HI0:=hide hI2;have HKX:=hide (za kX bra);have HBA:=hide hba;clear hRr hI kX hb hba k2 hR;go_wp2_with (at_builtin; refine zS (F:=intF) _ rfl _ _ 35 3 rfl w1.heap.size Tryz.underlying35 Tryz.infoI64 rfl (by decide) _ k (List.replicate k 1) rfl hI2 (some ⟨wr.heap.size,0,none⟩) 1 1 [1] rfl gone (by omega) HBA.out.size ?_)
    intro a7 c7 w7 how hr hgr hb7;have hown2:=zu HR2.out HI0.out (by decide) hgr;have kX7:=ze HKX.out hgr (fun j hj=>zt HI0.out HKX.out (by decide) j hj);obtain ⟨⟨y0,y1⟩,f0,f1⟩:=zbP kX7;have HO:Hid ((w7.setCell ⟨w2.heap.size,1,none⟩ (.slice a7 (k+1) c7)).ownsRow w1.heap.size 3 1 (.slice a7 (k+1) c7) (k+1) (intF.all (List.replicate (k+1) 1))):=hide (by
     rw [List.replicate_succ'];exact zo how (zj (rb:=w2.heap.size) 1 _) (zt how kX7 (by decide)))
    have HR3:=hide (zo hown2 (zj (rb:=w2.heap.size) 1 (.slice a7 (k+1) c7)) (zt hown2 kX7 (by decide)));have HK3:Hid ((w7.setCell ⟨w2.heap.size,1,none⟩ (.slice a7 (k+1) c7)).heap[w2.heap.size]? = some (.cells #[.slice (some ⟨w1.heap.size,0,none⟩) 1 1,.slice a7 (k+1) c7] 42)):=hide (zgK kX7 _);have HB3:=hide (zy (HBA.out.trans hb7) X2.out 1 (.slice a7 (k+1) c7));clear how hr hgr hb7 hown2 hI2 x0 x1 gone ka;go_wp2
    go_roundw
    case rel=>exact ⟨k+1,a7,c7,by omega,by go_num,HK3.out,HR3.out,HO.out,HB3.out⟩
    case measure=>simp [intOf]; omega
   ·have hkp:k=p:=by omega
    subst hkp;obtain ⟨⟨x0,x1⟩,-⟩:=zbP kX;obtain ⟨⟨g0,g1⟩,f0,f1⟩:=zbP (za k0 hb);have hV:VOwn wr w1.heap.size (some ⟨w1.heap.size,0,none⟩) 1 1 o k q ⟨[⟨1,allOf k,allOf k⟩],List.replicate k 1⟩:=⟨hRr,(by rw [← zb4]; exact hI),zia _⟩;have HO:=hide ((hV.set2 (g:=w.heap.size) z1.out (.slice (some ⟨w1.heap.size,0,none⟩) 1 1) (.slice o k q)).lt (base':=w.heap.size) b01.size);have HB:=hide (zy (zy (zc b01 hb) (Nat.le_refl _) 0 (.slice (some ⟨w1.heap.size,0,none⟩) 1 1)) (Nat.le_refl _) 1 (.slice o k q));clear hV hRr hI hb k2 hR;go_wp2;exact bodyPost_ret (v:=.agg #[.slice (some ⟨w1.heap.size,0,none⟩) 1 1,.slice o k q]) (by simp [results,Tryz.results97,go_sem, *]) rfl ⟨_,_,_,_,_,_,rfl,HO.out,HB.out⟩

theorem zhV:(Tryz.prog.info? 145).map (fun i=>(i.zero,i.size,i.bytes))=some (some (.agg #[.int .i64 0,.int .i64 0,.int .i64 0,.int .i64 0,.bool false]),fentF.k,40):=by kernel_rfl

theorem za6 (w:World) {ops:Array Oper} {rest:List Oper} {o:Oper} {a:Act} {Q:Exit→Act→World→Prop} (hgd:o.guard=none)
  (s x:Operand) (ho:o.op=Op.call { callee:=Callee.builtin Builtin.append,args:=#[s,x],argTypes:=#[39,39] }) (base:Nat)
  (v:Value) (n:Nat) (xs:List FE) (hs:a.eval s=v) (hown:w.ownsRow base 145 5 v n (fentF.all xs)) (ao:Option Addr) (m c:Nat) (zs:List FE)
  (hx:a.eval x=.slice ao m c) (hrow:GRow fentF w ao m c zs) (hsm:n+m≤137438953472) (hbase:base≤w.heap.size)
  (h:∀ao' cap' w',w'.ownsRow base 145 5 (.slice ao' (n+m) cap') (n+m) (fentF.all (xs++zs))→GRow fentF w' ao' (n+m) cap' (xs++zs)→w.grownBy w' v.ownBlock→Below base w w'→wpList Tryz.prog ops Q rest (a.put o.dst (.slice ao' (n+m) cap')) w') :
  wpList Tryz.prog ops Q (o::rest) a w :=
 zS (F:=fentF) w hgd s x 39 145 ho base Tryz.underlying39 zhV rfl (by decide) v n xs hs hown ao m c zs hx hrow hsm hbase h

theorem zev (ao:Option Addr) (n cap:Nat) (l:List FE) (w:World) (h:GRow fentF w ao n cap l) (hn:n≤16777216) :
  Calls Tryz.prog 132 #[.slice ao n cap] w fun r w'=>∃ao' cap',r=.returned (.slice ao' n cap')∧w'.ownsRow w.heap.size 145 5 (.slice ao' n cap') n (fentF.all l)∧GRow fentF w' ao' n cap' l∧Below w.heap.size w w':=by
 go_enter Tryz.func132,Tryz.ntmps132;go_wp2_with (at_builtin; refine za6 _ rfl _ _ rfl w.heap.size _ 0 [] rfl (zaE fentF w _ 145 w.heap.size (zT w _) (Nat.le_refl _)) ao n cap l rfl (h.below (zn _ _)) (by omega) (by simp) ?_)
 intro ao' cap' w' how hr hgr hb;have how:w'.ownsRow w.heap.size 145 5 (.slice ao' n cap') n (fentF.all l):=by simpa using how
 have hr:GRow fentF w' ao' n cap' l:=by simpa using hr
 have HO:=hide how;have HB:=hide ((zn w _).trans hb);clear how hgr hb;go_wp2;go_ret;exact ⟨ao',cap',(by simp),HO.out,hr,HB.out⟩

theorem zfY {l:List FE} {k:Nat} {x:FE} (h:l[k]? = some x):l.drop k=x::l.drop (k+1):=by
 have hk:=(List.getElem?_eq_some_iff.1 h).1;rw [List.drop_eq_getElem_cons hk];rw [List.getElem?_eq_getElem hk] at h;cases h
 rfl

end Go.Proofs.YtkaefmfopejbaaaGreat
