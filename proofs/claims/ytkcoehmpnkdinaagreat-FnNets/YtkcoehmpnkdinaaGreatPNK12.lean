/-
  Packed: DrawNt1 VtabDropM VtabDrop VtabDropS.
-/
import Derived.Test.YtkcoehmpnkdinaaGreatPNK05
import Derived.Test.YtkcoehmpnkdinaaGreatPNK11
namespace Go.Proofs.YtkcoehmpnkdinaaGreat
set_option maxRecDepth 100000
set_option maxHeartbeats 16000000
open Go.RowKit

theorem zin (ao:Option Addr) (n c:Nat) (most:Int) (w:World) (hn:n≤1048576) (hm:0≤most) (hm2:most≤1000) :
  Calls Tryz.prog 29 #[.slice ao n c,.int .i64 most] w fun e w'=>∃x:Int,e=.returned (.int .i64 x)∧0≤x∧x≤most∧w'=w:=by
 have hd:(n:Int).tdiv 12=(n:Int) / 12:=Int.tdiv_eq_ediv_of_nonneg (by omega);by_cases h:3+(n:Int) / 12 > most
 ·go_enter Tryz.func29,Tryz.ntmps29;go_wp2;go_ret;exact ⟨most,rfl,hm,Int.le_refl _,rfl⟩
 ·go_enter Tryz.func29,Tryz.ntmps29;go_wp2;go_ret;exact ⟨_,rfl,by omega,by omega,rfl⟩

def idsTo (s:Int):Nat→List Int
 | 0=>[]
 | k+1=>idsTo s k++[1+(s+(k:Int)*3) % 7]
theorem zbE (s:Int):∀k,(idsTo s k).length=k
 | 0=>rfl
 | k+1=>by rw [idsTo,List.length_append,zbE s k]; rfl

theorem zfv (C:Nat) (a0:Option Addr) (l0 c0:Nat) (z0:List Int) (m:Nat) (w:World) (hc:Cur w C a0 l0 c0 z0) (hm:m≤100) :
  Calls Tryz.prog 20 #[.pointer (some ⟨C,0,none⟩),.int .i64 m] w fun e w'=>∃(s:Int) (ao:Option Addr) (cap:Nat),0≤s∧s < 7∧e=.returned (.slice ao m cap)∧w'.ownsRow w.heap.size 3 1 (.slice ao m cap) m (intF.all (idsTo s m))∧Went w w' C a0 l0 c0 z0:=by
 have hlt:=hc.lt;go_enter Tryz.func20,Tryz.ntmps20;go_wp2_with fail
 generalize hw1:w.alloc (Obj.cells #[] 3)=w1;have b1:=zb hw1;have o1:=zaE intF w w1 3 w.heap.size (zk hw1) (Nat.le_refl _);have wn1:=Went.start hc b1;clear hw1 b1;refine (zy C a0 l0 c0 z0 7 _ wn1.cur (by omega)).mono ?_;rintro e w2 ⟨s,rfl,hs0,hs7,-,wt⟩;have hs7:s < 7:=hs7 (by omega);have wn2:=wn1.trans wt;have o2:=zw o1 wt.grown (fun b hb=>by cases hb; exact hlt);clear o1 wn1 wt;go_wp2_with fail
 go_loopw [5,7] (fun o i wr=>∃(k:Nat) (ao:Option Addr) (cap:Nat),k≤m∧i=.int .i64 k∧o=.slice ao k cap∧wr.ownsRow w.heap.size 3 1 (.slice ao k cap) k (intF.all (idsTo s k))∧Went w wr C a0 l0 c0 z0) (fun _ i _=>m - (intOf i).toNat)
 case atStart=>exact ⟨0,_,_,Nat.zero_le _,rfl,rfl,o2,wn2⟩
 case round =>
  obtain ⟨k,ao,cap,hk,rfl,rfl,ok,wk⟩:=hrel;clear o2 wn2;by_cases hlt2:k < m
  ·have hmm:(s+(k:Int)*3).tmod 7=(s+(k:Int)*3) % 7:=Int.tmod_eq_emod_of_nonneg (by omega);have hr0:0≤(s+(k:Int)*3) % 7∧(s+(k:Int)*3) % 7 < 7:=by omega
   have hb9:=wk.grown.size;have gone:GRow intF (wr.alloc (.cells #[.int .i64 (1+(s+(k:Int)*3) % 7)] 3)) (some ⟨wr.heap.size,0,none⟩) 1 1 [1+(s+(k:Int)*3) % 7]:=zax intF wr _ _ _ rfl;have oA:=zl ok (zg wr (.cells #[.int .i64 (1+(s+(k:Int)*3) % 7)] 3));have WA:=hide (wk.made (zg wr (.cells #[.int .i64 (1+(s+(k:Int)*3) % 7)] 3)));have hbA:w.heap.size≤(wr.alloc (.cells #[.int .i64 (1+(s+(k:Int)*3) % 7)] 3)).heap.size:=by rw [World.size_alloc]; omega
   go_wp2_with (at_builtin; refine zE (F:=intF) _ rfl _ _ 24 3 rfl w.heap.size Tryz.underlying24 Tryz.infoI64 rfl (by decide) _ k (idsTo s k) rfl oA (some ⟨wr.heap.size,0,none⟩) 1 1 [1+(s+(k:Int)*3) % 7] rfl gone (by omega) hbA ?_)
   intro a7 c7 w7 how hr hgr hb7;have HO:Hid (w7.ownsRow w.heap.size 3 1 (.slice a7 (k+1) c7) (k+1) (intF.all (idsTo s (k+1)))):=hide how;have HW:=hide (WA.out.madeAt hb7 hlt (Nat.le_refl _));clear how hr hgr hb7 gone oA hbA ok wk;go_wp2
   go_roundw
   case rel=>exact ⟨k+1,a7,c7,by omega,by go_num,rfl,HO.out,HW.out⟩
   case measure=>simp [intOf]; omega
  ·have hkm:k=m:=by omega
   subst hkm;have HO:=hide ok;have HW:=hide wk;have HS:=hide (And.intro hs0 hs7);clear ok wk;go_wp2;go_ret;exact ⟨s,ao,cap,HS.out.1,HS.out.2,rfl,HO.out,HW.out⟩

def zbU (v:VT) (id:Int):VT × Bool:=match zaT v.rows id with
 | none=>(v,false)
 | some k=>if zU v v.own.length then orV ⟨v.rows.take k++v.rows.drop (k+1),v.own⟩ v else (v,false)

theorem GRow.drop3 {w:World} {b off n c k:Nat} {l:List VR} (h:GRow vrowF w (some ⟨b,off,none⟩) n c l) (hk:k≤n):GRow vrowF w (if c=k then some ⟨b,off,none⟩ else some ⟨b,off+k*3,none⟩) (n - k) (c - k) (l.drop k) where
 size:=by have:=h.size; simp; omega
 le:=by have:=h.le; omega
 top:=by have:=h.top; omega
 nil:=by split <;> (intro h; cases h)
 cell:=by
  have hle:=h.le;by_cases hc0:c=k
  ·exact .inl (by omega)
  ·rw [if_neg hc0];rcases h.cell with h0 | ⟨b',off',ha,hc⟩
   ·exact .inl (by omega)
   ·cases ha;refine .inr ⟨b,off+k*3,rfl,fun i x hi j v hv => ?_⟩;rw [List.getElem?_drop] at hi
    have:=hc (k+i) x hi j v hv
    have e3:vrowF.k=3:=rfl;rw [e3] at this ⊢;rw [show off+k*3+i*3+j=off+(k+i)*3+j by omega];exact this

theorem zeZ (b off n c:Nat) (o:Option Addr) (p q:Nat) (v:VT) (id:Int) (k:Nat) (w:World) (h:VTab w (some ⟨b,off,none⟩) n c o p q v) (hn:n≤16777216) (hp:p≤16777216) (hr:zaT v.rows id=some k) (hok:zU v p=true) :
  Calls Tryz.prog 145 #[.agg #[.slice (some ⟨b,off,none⟩) n c,.slice o p q],.int .i64 id] w fun e w'=>∃a' n' c' o' p' q',e=.returned (.tuple #[.agg #[.slice a' n' c',.slice o' p' q'],.bool (orV ⟨v.rows.take k++v.rows.drop (k+1),v.own⟩ v).2])∧VOwn w' w.heap.size a' n' c' o' p' q' (orV ⟨v.rows.take k++v.rows.drop (k+1),v.own⟩ v).1∧Below w.heap.size w w':=by
 have hkn:k < n:=by
  obtain ⟨x,hx,-⟩:=zhK hr
  have:=(List.getElem?_eq_some_iff.1 hx).1
  have:=h.rows.size
  omega
 have hle:=h.rows.le;have htop:=h.rows.top;unfold maxLen at htop;have hat:rowAt v.rows id=(k:Int):=by unfold rowAt; rw [hr]
 generalize hw1:w.alloc (Obj.cells #[Value.slice (some ⟨b,off,none⟩) n c,Value.slice o p q] 59)=w1;generalize hw2:w1.alloc (Obj.cells #[Value.slice none 0 0,Value.slice none 0 0] 59)=w2;have b01:=zb hw1;have b12:=zb hw2;have b02:=zc b01 b12;have k1:=zk hw2;have z2:Hid (w1.heap.size < w2.heap.size):=hide (by rw [← hw2]; simp);obtain ⟨e0,e0x⟩:=zW hw1 (Below.refl _ w1);have hc2:=zW hw1 b12;have h2:=h.below b02;go_enter Tryz.func145,Tryz.ntmps145;go_wp2_with (refine (zbp (some ⟨b,off,none⟩) n c v.rows o p q id _ h2.rows).mono ?_; rintro e w3 ⟨rfl,hb3⟩; rw [hat]; have hc3:=zW hw1 (zc b12 hb3))
 go_wp2_with (refine (zae (some ⟨b,off,none⟩) n c o p q v (p:Int) _ (h2.below hb3)).mono ?_; rintro e w4 ⟨rfl,hb4⟩; rw [hok]; have hc4:=zW hw1 (zc b12 (zc hb3 hb4)))
 go_wp2_with fail
 refine (zat (some ⟨b,off,none⟩) n c o p q v _ (h2.below (zc hb3 hb4)) hn hp).mono ?_;rintro e w5' ⟨a5,c5,o5,q5,rfl,hO5,hb5⟩;generalize hw5:w5'.alloc (Obj.cells #[Value.slice a5 n c5,Value.slice o5 p q5] 59)=w5;have b55:=zb hw5;have b25:=zc hb3 (zc hb4 (zc hb5 b55));have b05:=zc b02 b25;have b15:=zc b12 b25;have k5:w5.heap[w5'.heap.size]? = some (.cells #[.slice a5 n c5,.slice o5 p q5] 59):=by rw [← hw5]; exact zt _ _
 have hO5:=hO5.below b55;have vv:Below w5.heap.size w5 w5.drew:=zr (Below.refl _ _);have vb:Below w2.heap.size w2 w5.drew:=zr b25;have z51:w5'.heap.size < w5.heap.size:=by rw [← hw5]; simp
 have z5:Hid (w5'.heap.size < w5.heap.size∧w2.heap.size≤w5'.heap.size∧w2.heap.size≤w4.heap.size):=hide ⟨z51,(zc hb3 (zc hb4 hb5)).size,(zc hb3 hb4).size⟩;clear z51;have i1:(0:Int)≤(k:Int):=by omega
 have i2:(k:Int)≤(c:Int):=by omega
 have i3:(0:Int)≤(k:Int)+1:=by omega
 have i4:(k:Int)+1≤(n:Int):=by omega
 have i5:IntKind.i64.wrap ((k:Int)+1)=(k:Int)+1:=by rw [IntKind.wrap_i64]; omega
 go_wp2_with fail
 refine wp_region_held_drew (S:=(fun W=>zcc W w.heap.size 0 (.slice (some ⟨b,off,none⟩) n c))) (by kernel_rfl) (zf hc2.1 vb) (fun hHeld => ?_);refine kK 1 ?_;refine kK 2 ?_;refine kK 3 ?_;refine kK 4 ?_;refine kK 6 ?_;refine kK 7 ?_;refine kK 8 ?_;refine kK 9 ?_;refine kK 10 ?_;refine kR 0 fun K hK => ?_
 go_simp
 first
 | refine zaj (K:=K _) (fun wx hk hbx => ?_)
 | refine zab (K:=K _) (fun wx hk hbx => ?_)
 have hR:=zaE vrowF w5 wx 98 _ hk vv.size;have vv:=zc vv hbx;have vb:=zc vb hbx;clear hk hbx;refine kO hK (zf hc2.1 vb) fun hHeld => ?_
 clear hK K;refine kR 5 fun K hK => ?_
 refine zI (F:=vrowF) rfl _ _ 57 98 rfl w5.heap.size Tryz.underlying57 zbA rfl (by decide) _ 0 [] rfl hR _ k c (v.rows.take k) rfl ((h.rows.below (zc b05 vv)).take (by omega)) (by omega) vv.size ?_;intro aoR cpR wx how hrow hgr hbx;have hR:=how;have vv:=vv.trans hbx;have vb:=vb.trans (hbx.mono b25.size);clear how hrow hgr hbx;simp only [Nat.zero_add,List.nil_append] at hR ⊢;refine kO hK (zf hc2.1 vb) fun hHeld => ?_
 clear hK K;refine kR 11 fun K hK => ?_
 refine zI (F:=vrowF) rfl _ _ 57 98 rfl w5.heap.size Tryz.underlying57 zbA rfl (by decide) _ k (v.rows.take k) rfl hR _ (n - (k+1)) (c - (k+1)) (v.rows.drop (k+1)) rfl ((h.rows.below (zc b05 vv)).drop3 (by omega)) (by omega) vv.size ?_;intro aoR cpR wx how hrow hgr hbx;have hR:=how;have vv:=vv.trans hbx;have vb:=vb.trans (hbx.mono b25.size);clear how hrow hgr hbx;refine kO hK (zf hc2.1 vb) fun hHeld => ?_
 clear hK K;refine kK 12 ?_;refine kR 13 fun K hK => ?_
 have hbx:=za k5 vv;obtain ⟨⟨g0,g1⟩,f0,f1⟩:=zG hbx;have hN:=zB (hO5.below vv).own (zm (rb:=w5'.heap.size) 0 (.slice aoR (k+(n - (k+1))) cpR)) (zN (hO5.below vv).own hbx (by decide));have hR:=zw hR (zm (rb:=w5'.heap.size) 0 (.slice aoR (k+(n - (k+1))) cpR)) (by intro b hb; cases hb; exact z5.out.1);have kX:=zu (j:=0) hbx (.slice aoR (k+(n - (k+1))) cpR);go_simp;have vb:=zj vb z5.out.2.1 0 (.slice aoR (k+(n - (k+1))) cpR);refine kO hK (zf hc2.1 vb) fun hHeld => ?_
 clear hK K;refine wpAnyH_done (by kernel_rfl) ?_ _;have kX:(World.setCell wx ⟨w5'.heap.size,0,none⟩ (.slice aoR (k+(n - (k+1))) cpR)).heap[w5'.heap.size]? = some (.cells #[Value.slice aoR (k+(n - (k+1))) cpR,.slice o5 p q5] 59):=kX;generalize World.setCell wx ⟨w5'.heap.size,0,none⟩ (.slice aoR (k+(n - (k+1))) cpR)=w6 at hR hN kX vb ⊢;generalize k+(n - (k+1))=m at hR kX ⊢;generalize (if c=k+1 then some (⟨b,off,none⟩:Addr) else some ⟨b,off+(k+1)*3,none⟩)=ad;obtain ⟨⟨x0,x1⟩,-⟩:=zG kX;have y0:=zf hc2.1 vb;have y1:=zf hc2.2 vb;have hV:VOwn w6 w2.heap.size aoR m cpR o5 p q5 ⟨v.rows.take k++v.rows.drop (k+1),v.own⟩:=⟨zL hR b25.size,zL hN z5.out.2.2,h.own.byte⟩;have HV:=hide hV;clear hR hN hV hO5;go_wp2_with fail
 refine (zdt w2.heap.size aoR m cpR o5 p q5 _ (some ⟨b,off,none⟩) n c o p q v _ HV.out (h.below (zc b02 vb)) hn hp vb.size).mono ?_;rintro e w7 ⟨a7,n7,c7,o7,p7,q7,rfl,hO7,hb7⟩;obtain ⟨⟨g0,g1⟩,f0,f1⟩:=zG (za k1 (zc vb hb7));have HB:=hide (zj (zj (zc (zc b02 vb) hb7) b01.size 0 (.slice a7 n7 c7)) b01.size 1 (.slice o7 p7 q7));have HO:=hide ((hO7.set2 (g:=w1.heap.size) z2.out (.slice a7 n7 c7) (.slice o7 p7 q7)).lt (base':=w.heap.size) b02.size);clear hO7;go_wp2;exact bodyPost_ret (v:=.tuple #[.agg #[.slice a7 n7 c7,.slice o7 p7 q7],.bool (orV ⟨v.rows.take k++v.rows.drop (k+1),v.own⟩ v).2]) (by simp [results,Tryz.results145,go_sem, *]) rfl ⟨_,_,_,_,_,_,rfl,HO.out,HB.out⟩

theorem zfl (a:Option Addr) (n c:Nat) (o:Option Addr) (p q:Nat) (v:VT) (id:Int) (w:World) (h:VTab w a n c o p q v) (hn:n≤16777216) (hp:p≤16777216) (hno:zU v p=false∨zaT v.rows id=none) :
  Calls Tryz.prog 145 #[.agg #[.slice a n c,.slice o p q],.int .i64 id] w fun e w'=>∃a' c' o' q',e=.returned (.tuple #[.agg #[.slice a' n c',.slice o' p q'],.bool false])∧VOwn w' w.heap.size a' n c' o' p q' v∧Below w.heap.size w w':=by
 generalize hw1:w.alloc (Obj.cells #[Value.slice a n c,Value.slice o p q] 59)=w1;generalize hw2:w1.alloc (Obj.cells #[Value.slice none 0 0,Value.slice none 0 0] 59)=w2;have b01:=zb hw1;have b12:=zb hw2;have b02:=zc b01 b12;have k1:=zk hw2;have z2:Hid (w1.heap.size < w2.heap.size):=hide (by rw [← hw2]; simp);have hc2:=zW hw1 b12;have h2:=h.below b02;cases hok:zU v p
 ·generalize hat:rowAt v.rows id=k;have HA:=hide hat;clear hat;go_enter Tryz.func145,Tryz.ntmps145;go_wp2_with (refine (zbp a n c v.rows o p q id _ h2.rows).mono ?_; rintro e w3 ⟨rfl,hb3⟩; rw [HA.out]; have hc3:=zW hw1 (zc b12 hb3))
  go_wp2_with (refine (zae a n c o p q v (p:Int) _ (h2.below hb3)).mono ?_; rintro e w4 ⟨rfl,hb4⟩; rw [hok]; have hc4:=zW hw1 (zc b12 (zc hb3 hb4)))
  (go_wp2_with fail);refine (zat a n c o p q v _ (h2.below (zc hb3 hb4)) hn hp).mono ?_;rintro e w5 ⟨a',c',o',q',rfl,hO,hb5⟩;have b25:=zc hb3 (zc hb4 hb5);obtain ⟨⟨g0,g1⟩,f0,f1⟩:=zG (za k1 b25);have HB:=hide (zj (zj (zc b02 b25) b01.size 0 (.slice a' n c')) b01.size 1 (.slice o' p q'));have HO:=hide ((hO.set2 (g:=w1.heap.size) (Nat.lt_of_lt_of_le z2.out (zc hb3 hb4).size) (.slice a' n c') (.slice o' p q')).lt (base':=w.heap.size) (Nat.le_trans b02.size (zc hb3 hb4).size));clear hO;go_wp2;exact bodyPost_ret (v:=.tuple #[.agg #[.slice a' n c',.slice o' p q'],.bool false]) (by simp [results,Tryz.results145,go_sem, *]) rfl ⟨_,_,_,_,rfl,HO.out,HB.out⟩
 ·have hr:zaT v.rows id=none:=by
   rcases hno with h | h
   ·rw [hok] at h; cases h
   ·exact h
  have HA:Hid (rowAt v.rows id = -1):=hide (by unfold rowAt; rw [hr]);clear hr hno;go_enter Tryz.func145,Tryz.ntmps145;go_wp2_with (refine (zbp a n c v.rows o p q id _ h2.rows).mono ?_; rintro e w3 ⟨rfl,hb3⟩; rw [HA.out]; have hc3:=zW hw1 (zc b12 hb3))
  go_wp2_with (refine (zae a n c o p q v (p:Int) _ (h2.below hb3)).mono ?_; rintro e w4 ⟨rfl,hb4⟩; rw [hok]; have hc4:=zW hw1 (zc b12 (zc hb3 hb4)))
  (go_wp2_with fail);refine (zat a n c o p q v _ (h2.below (zc hb3 hb4)) hn hp).mono ?_;rintro e w5 ⟨a',c',o',q',rfl,hO,hb5⟩;have b25:=zc hb3 (zc hb4 hb5);obtain ⟨⟨g0,g1⟩,f0,f1⟩:=zG (za k1 b25);have HB:=hide (zj (zj (zc b02 b25) b01.size 0 (.slice a' n c')) b01.size 1 (.slice o' p q'));have HO:=hide ((hO.set2 (g:=w1.heap.size) (Nat.lt_of_lt_of_le z2.out (zc hb3 hb4).size) (.slice a' n c') (.slice o' p q')).lt (base':=w.heap.size) (Nat.le_trans b02.size (zc hb3 hb4).size));clear hO;go_wp2;exact bodyPost_ret (v:=.tuple #[.agg #[.slice a' n c',.slice o' p q'],.bool false]) (by simp [results,Tryz.results145,go_sem, *]) rfl ⟨_,_,_,_,rfl,HO.out,HB.out⟩

theorem zeg (a:Option Addr) (n c:Nat) (o:Option Addr) (p q:Nat) (v:VT) (id:Int) (w:World) (h:VTab w a n c o p q v) (hn:n≤16777216) (hp:p≤16777216) :
  Calls Tryz.prog 145 #[.agg #[.slice a n c,.slice o p q],.int .i64 id] w fun e w'=>∃a' n' c' o' p' q',e=.returned (.tuple #[.agg #[.slice a' n' c',.slice o' p' q'],.bool (zbU v id).2])∧VOwn w' w.heap.size a' n' c' o' p' q' (zbU v id).1∧Below w.heap.size w w':=by
 have hl:=h.own.size;by_cases hno:zU v p=false∨zaT v.rows id=none
 ·have hd:zbU v id=(v,false):=by
   unfold zbU;rw [hl];rcases hno with h | h
   ·rw [h];cases zaT v.rows id <;> rfl
   ·rw [h]
  rw [hd];refine (zfl a n c o p q v id w h hn hp hno).mono ?_;rintro e w' ⟨a',c',o',q',rfl,hO,hb⟩;exact ⟨a',n,c',o',p,q',rfl,hO,hb⟩
 ·have hok:zU v p=true:=by
   cases h1:zU v p
   ·exact absurd (Or.inl h1) hno
   ·rfl
  cases hr:zaT v.rows id with
  | none=>exact absurd (Or.inr hr) hno
  | some k =>
   have hd:zbU v id=orV ⟨v.rows.take k++v.rows.drop (k+1),v.own⟩ v:=by
    unfold zbU;rw [hl,hr,hok]
    rfl
   rw [hd];have hkn:k < n:=by
    have:=(List.findIdx?_eq_some_iff_getElem.1 hr).1
    have:=h.rows.size
    omega
   obtain ⟨x,b,off,-,rfl,-⟩:=zb2 h.rows k hkn;exact zeZ b off n c o p q v id k w h hn hp hr hok

end Go.Proofs.YtkcoehmpnkdinaaGreat
