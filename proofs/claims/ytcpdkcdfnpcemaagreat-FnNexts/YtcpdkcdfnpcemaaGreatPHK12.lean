/-
  Packed: CloneI VtabNewS VtabDropM VtabDrop VtabDropS VtabHelp.
-/
import Derived.Test.YtcpdkcdfnpcemaaGreatPHK06
import Derived.Test.YtcpdkcdfnpcemaaGreatPHK11
namespace Go.Proofs.YtcpdkcdfnpcemaaGreat
set_option maxRecDepth 100000
set_option maxHeartbeats 16000000
open Go.RowKit

theorem zgm (ao:Option Addr) (n cap:Nat) (l:List Int) (w:World) (h:GRow intF w ao n cap l) (hn:n≤16777216) :
  Calls Tryz.prog 45 #[.slice ao n cap] w fun r w'=>∃ao' cap',r=.returned (.slice ao' n cap')∧w'.ownsRow w.heap.size 3 1 (.slice ao' n cap') n (intF.all l)∧Below w.heap.size w w':=by
 cases ao with
 | none =>
  have hc0:=h.nil rfl;have hn0:n=0:=by have:=h.le; omega
  subst hc0 hn0;have hl:l=[]:=List.eq_nil_of_length_eq_zero h.size;subst hl;have heq:∀W,(binOp .eql 27 (.slice none 0 0) (.slice none 0 0)).run Tryz.prog W=.ok (.bool true) W:=fun _=>by kernel_rfl
  go_enter Tryz.func45,Tryz.ntmps45;go_wp2;go_ret;exact ⟨none,0,rfl,World.ownsRow_nil _ _ _ _,Below.refl _ _⟩
 | some a =>
  have heq:∀W,(binOp .eql 27 (.slice (some a) n cap) (.slice none 0 0)).run Tryz.prog W=.ok (.bool false) W:=fun _=>by kernel_rfl
  go_enter Tryz.func45,Tryz.ntmps45;go_wp2_with (at_builtin; refine zx (F:=intF) _ rfl _ _ 27 3 rfl w.heap.size Tryz.underlying27 Tryz.infoI64 rfl (by decide) _ 0 [] rfl (za7 intF w _ 3 w.heap.size (zy w _) (Nat.le_refl _)) (some a) n cap l rfl (h.below (zh _ _)) (by omega) (by simp) ?_)
  intro ao' cap' w' how hr hgr hb;have how:w'.ownsRow w.heap.size 3 1 (.slice ao' n cap') n (intF.all l):=by
   (try simp only [Nat.zero_add,List.nil_append] at how);exact how
  have HO:=hide how;have HB:=hide ((zh w _).trans hb);clear how hgr hb hr;go_wp2;go_ret;exact ⟨ao',cap',(by simp),HO.out,HB.out⟩

def zbB (ports:Int):VT:=if (decide (1≤ports) && decide (ports≤6))=true then ⟨[⟨1,allOf ports.toNat,allOf ports.toNat⟩],List.replicate ports.toNat 1⟩ else ⟨[],[]⟩

theorem zgK {ports:Int} (h:(decide (1≤ports) && decide (ports≤6))=false):zbB ports=⟨[],[]⟩:=by
 unfold zbB;rw [h,if_neg Bool.false_ne_true]
theorem zbP {p:Nat} (h:(decide (1≤(p:Int)) && decide ((p:Int)≤6))=true):zbB p=⟨[⟨1,allOf p,allOf p⟩],List.replicate p 1⟩:=by
 unfold zbB;rw [if_pos h,Int.toNat_natCast]

theorem zh7 (k:Nat):I64s (List.replicate k 1):=by
 intro z hz;rw [List.eq_of_mem_replicate hz];exact ⟨by decide,by decide⟩

theorem zhj {α:Type} (F:Flat α) {w:World} {g base:Nat} {x:α} {cs:Array Value} {T:TypeId} (h:w.heap[g]? = some (.cells cs T)) (hc:cs.toList=F.cs x) (hb:base≤g):w.ownsRow base T F.k (.slice (some ⟨g,0,none⟩) 1 1) 1 (F.all [x]):=by
 have hl:cs.toList.length=F.k:=by rw [hc,F.len]
 refine ⟨by rw [F.all_length]; rfl,.inr ⟨g,1,cs,rfl,hb,h,Nat.le_refl _,by unfold maxLen; omega, ?_, ?_⟩⟩
 ·have:=hl
  simp at this
  rw [this,Nat.one_mul]
 ·rw [F.all_one,Nat.one_mul,← hc,← hl,List.take_length]

theorem zit (w:World) (base:Nat):VOwn w base none 0 0 none 0 0 ⟨[],[]⟩:=⟨World.ownsRow_nil _ _ _ _,World.ownsRow_nil _ _ _ _,(by intro z hz; cases hz)⟩

theorem zbV (ports:Int) (w:World) :
  Calls Tryz.prog 182 #[.int .i64 ports] w fun e w'=>∃a n c o p q,e=.returned (.agg #[.slice a n c,.slice o p q])∧VOwn w' w.heap.size a n c o p q (zbB ports)∧Below w.heap.size w w':=by
 generalize hw1:w.alloc (Obj.cells #[Value.slice none 0 0,Value.slice none 0 0] 29)=w1;have b01:=zb hw1;have k0:=zk hw1;have z1:Hid (w.heap.size < w1.heap.size):=hide (by rw [← hw1]; simp);cases hin:(decide (1≤ports) && decide (ports≤6))
 ·rw [zgK hin];have HIN:=hide hin;clear hin;obtain ⟨⟨g0,g1⟩,f0,f1⟩:=zB k0;have HB:=hide (zi (zi b01 (Nat.le_refl _) 0 (.slice none 0 0)) (Nat.le_refl _) 1 (.slice none 0 0));go_enter Tryz.func182,Tryz.ntmps182;go_wp2_with (refine (zg ports 1 6 _).mono ?_; rintro r w2 ⟨rfl,e2⟩; obtain rfl:=e2.symm; rw [HIN.out])
  exact bodyPost_ret (v:=.agg #[.slice none 0 0,.slice none 0 0]) (by simp [results,Tryz.results182,go_sem, *]) rfl ⟨_,_,_,_,_,_,rfl,zit _ _,HB.out⟩
 ·obtain ⟨p,rfl⟩:∃p:Nat,ports=(p:Int):=⟨ports.toNat,by simp at hin; omega⟩;rw [zbP hin];have HIN:=hide hin;have hp:1≤(p:Int)∧(p:Int)≤6:=by simpa using hin
  clear hin;generalize hw2:w1.alloc (Obj.cells #[Value.int .i64 1,Value.int .i64 (allOf p),Value.int .i64 (allOf p)] 119)=w2;have b12:=zb hw2;have k1:=zk hw2;generalize hwz:w2.alloc (Obj.cells #[Value.slice none 0 0,Value.slice none 0 0] 29)=wz;have b2z:=zb hwz;have kz:=zk hwz;obtain ⟨⟨j0,j1⟩,j2,j3⟩:=zB kz;generalize hw3:(wz.setCell ⟨w2.heap.size,0,none⟩ (Value.slice (some ⟨w1.heap.size,0,none⟩) 1 1)).setCell ⟨w2.heap.size,1,none⟩ (Value.slice none 0 0)=w3;have b23:Below w2.heap.size w2 w3:=by subst hw3; exact zi (zi b2z (Nat.le_refl _) _ _) (Nat.le_refl _) _ _
  have k2:w3.heap[w2.heap.size]? = some (.cells #[.slice (some ⟨w1.heap.size,0,none⟩) 1 1,.slice none 0 0] 29):=by
   have h1:=zt (j:=0) kz (Value.slice (some ⟨w1.heap.size,0,none⟩) 1 1);have h2:=zt (j:=1) h1 (Value.slice none 0 0);rw [hw3] at h2;exact h2
  have hR:w3.ownsRow w1.heap.size 119 3 (.slice (some ⟨w1.heap.size,0,none⟩) 1 1) 1 (vrowF.all [⟨1,allOf p,allOf p⟩]):=zm (zhj vrowF (x:=⟨1,allOf p,allOf p⟩) k1 rfl (Nat.le_refl _)) b23;have b13:=zd b12 b23;have hall:=zfR p hp.1 hp.2;have X2:Hid (w1.heap.size≤w2.heap.size):=hide b12.size;have hwp:IntKind.u64.wrap (p:Int)=(p:Int):=by rw [IntKind.wrap_u64]; omega
  go_enter Tryz.func182,Tryz.ntmps182;go_wp2_with (refine (zg (p:Int) 1 6 _).mono ?_; rintro r wy ⟨rfl,ey⟩; obtain rfl:=ey.symm; rw [HIN.out])
  go_wp2;rw [hall];clear j0 j1 j2 j3
  go_loopw [5] (fun i wr=>∃(k:Nat) (o:Option Addr) (q:Nat),k≤p∧i=.int .i64 k∧wr.heap[w2.heap.size]? = some (.cells #[.slice (some ⟨w1.heap.size,0,none⟩) 1 1,.slice o k q] 29)∧wr.ownsRow w1.heap.size 119 3 (.slice (some ⟨w1.heap.size,0,none⟩) 1 1) 1 (vrowF.all [⟨1,allOf p,allOf p⟩])∧wr.ownsRow w1.heap.size 3 1 (.slice o k q) k (intF.all (List.replicate k 1))∧Below w1.heap.size w1 wr) (fun i _=>p - (intOf i).toNat)
  case atStart=>exact ⟨0,none,0,Nat.zero_le _,rfl,k2,hR,World.ownsRow_nil _ _ _ _,b13⟩
  case round =>
   obtain ⟨k,o,q,hk,rfl,kX,hRr,hI,hb⟩:=hrel;by_cases hlt:k < p
   ·obtain ⟨⟨x0,x1⟩,-⟩:=zB kX;generalize hwa:wr.alloc (Obj.cells #[Value.int .i64 1] 3)=wa;have bra:=zb hwa;have ka:=zk hwa;have gone:GRow intF wa (some ⟨wr.heap.size,0,none⟩) 1 1 [1]:=zab (F:=intF) (zhj intF (x:=1) (base:=0) ka rfl (Nat.zero_le _));have hba:=zd hb bra;have HR2:=hide (zm hRr bra);have hI2:=zm hI bra;have HI0:=hide hI2;have HKX:=hide (ze kX bra);have HBA:=hide hba;clear hRr hI kX hb hba k2 hR;go_wp2_with (at_builtin; refine zx (F:=intF) _ rfl _ _ 27 3 rfl w1.heap.size Tryz.underlying27 Tryz.infoI64 rfl (by decide) _ k (List.replicate k 1) rfl hI2 (some ⟨wr.heap.size,0,none⟩) 1 1 [1] rfl gone (by omega) HBA.out.size ?_)
    intro a7 c7 w7 how hr hgr hb7;have hown2:=zah HR2.out HI0.out (by decide) hgr;have kX7:=zr HKX.out hgr (fun j hj=>zaq HI0.out HKX.out (by decide) j hj);obtain ⟨⟨y0,y1⟩,f0,f1⟩:=zB kX7;have HO:Hid ((w7.setCell ⟨w2.heap.size,1,none⟩ (.slice a7 (k+1) c7)).ownsRow w1.heap.size 3 1 (.slice a7 (k+1) c7) (k+1) (intF.all (List.replicate (k+1) 1))):=hide (by
     rw [List.replicate_succ'];exact zC how (zl (rb:=w2.heap.size) 1 _) (zaq how kX7 (by decide)))
    have HR3:=hide (zC hown2 (zl (rb:=w2.heap.size) 1 (.slice a7 (k+1) c7)) (zaq hown2 kX7 (by decide)));have HK3:Hid ((w7.setCell ⟨w2.heap.size,1,none⟩ (.slice a7 (k+1) c7)).heap[w2.heap.size]? = some (.cells #[.slice (some ⟨w1.heap.size,0,none⟩) 1 1,.slice a7 (k+1) c7] 29)):=hide (zgB kX7 _);have HB3:=hide (zi (HBA.out.trans hb7) X2.out 1 (.slice a7 (k+1) c7));clear how hr hgr hb7 hown2 hI2 x0 x1 gone ka;go_wp2
    go_roundw
    case rel=>exact ⟨k+1,a7,c7,by omega,by go_num,HK3.out,HR3.out,HO.out,HB3.out⟩
    case measure=>simp [intOf]; omega
   ·have hkp:k=p:=by omega
    subst hkp;obtain ⟨⟨x0,x1⟩,-⟩:=zB kX;obtain ⟨⟨g0,g1⟩,f0,f1⟩:=zB (ze k0 hb);have hV:VOwn wr w1.heap.size (some ⟨w1.heap.size,0,none⟩) 1 1 o k q ⟨[⟨1,allOf k,allOf k⟩],List.replicate k 1⟩:=⟨hRr,(by rw [← zE]; exact hI),zh7 _⟩;have HO:=hide ((hV.set2 (g:=w.heap.size) z1.out (.slice (some ⟨w1.heap.size,0,none⟩) 1 1) (.slice o k q)).lt (base':=w.heap.size) b01.size);have HB:=hide (zi (zi (zd b01 hb) (Nat.le_refl _) 0 (.slice (some ⟨w1.heap.size,0,none⟩) 1 1)) (Nat.le_refl _) 1 (.slice o k q));clear hV hRr hI hb k2 hR;go_wp2;exact bodyPost_ret (v:=.agg #[.slice (some ⟨w1.heap.size,0,none⟩) 1 1,.slice o k q]) (by simp [results,Tryz.results182,go_sem, *]) rfl ⟨_,_,_,_,_,_,rfl,HO.out,HB.out⟩

def zbl (v:VT) (id:Int):VT × Bool:=match zaw v.rows id with
 | none=>(v,false)
 | some k=>if zL v v.own.length then orV ⟨v.rows.take k++v.rows.drop (k+1),v.own⟩ v else (v,false)

theorem GRow.drop3 {w:World} {b off n c k:Nat} {l:List VR} (h:GRow vrowF w (some ⟨b,off,none⟩) n c l) (hk:k≤n):GRow vrowF w (if c=k then some ⟨b,off,none⟩ else some ⟨b,off+k*3,none⟩) (n - k) (c - k) (l.drop k) where
 size:=by have:=h.size; simp; omega
 le:=by have:=h.le; omega
 top:=by have:=h.top; omega
 nil:=by split <;> (intro h; cases h)
 cell:=by
  have hle:=h.le;by_cases hc0:c=k
  ·exact .inl (by omega)
  ·rw [if_neg hc0];rcases h.cell with h0 | ⟨b',off',ha,hc⟩
   ·exact .inl (by omega)
   ·cases ha;refine .inr ⟨b,off+k*3,rfl,fun i x hi j v hv => ?_⟩;rw [List.getElem?_drop] at hi
    have:=hc (k+i) x hi j v hv
    have e3:vrowF.k=3:=rfl;rw [e3] at this ⊢;rw [show off+k*3+i*3+j=off+(k+i)*3+j by omega];exact this

theorem zdC (b off n c:Nat) (o:Option Addr) (p q:Nat) (v:VT) (id:Int) (k:Nat) (w:World) (h:VTab w (some ⟨b,off,none⟩) n c o p q v) (hn:n≤16777216) (hp:p≤16777216) (hr:zaw v.rows id=some k) (hok:zL v p=true) :
  Calls Tryz.prog 185 #[.agg #[.slice (some ⟨b,off,none⟩) n c,.slice o p q],.int .i64 id] w fun e w'=>∃a' n' c' o' p' q',e=.returned (.tuple #[.agg #[.slice a' n' c',.slice o' p' q'],.bool (orV ⟨v.rows.take k++v.rows.drop (k+1),v.own⟩ v).2])∧VOwn w' w.heap.size a' n' c' o' p' q' (orV ⟨v.rows.take k++v.rows.drop (k+1),v.own⟩ v).1∧Below w.heap.size w w':=by
 have hkn:k < n:=by
  obtain ⟨x,hx,-⟩:=zfG hr
  have:=(List.getElem?_eq_some_iff.1 hx).1
  have:=h.rows.size
  omega
 have hle:=h.rows.le;have htop:=h.rows.top;unfold maxLen at htop;have hat:rowAt v.rows id=(k:Int):=by unfold rowAt; rw [hr]
 generalize hw1:w.alloc (Obj.cells #[Value.slice (some ⟨b,off,none⟩) n c,Value.slice o p q] 29)=w1;generalize hw2:w1.alloc (Obj.cells #[Value.slice none 0 0,Value.slice none 0 0] 29)=w2;have b01:=zb hw1;have b12:=zb hw2;have b02:=zd b01 b12;have k1:=zk hw2;have z2:Hid (w1.heap.size < w2.heap.size):=hide (by rw [← hw2]; simp);obtain ⟨e0,e0x⟩:=zD hw1 (Below.refl _ w1);have hc2:=zD hw1 b12;have h2:=h.below b02;go_enter Tryz.func185,Tryz.ntmps185;go_wp2_with (refine (za0 (some ⟨b,off,none⟩) n c v.rows o p q id _ h2.rows).mono ?_; rintro e w3 ⟨rfl,hb3⟩; rw [hat]; have hc3:=zD hw1 (zd b12 hb3))
 go_wp2_with (refine (zO (some ⟨b,off,none⟩) n c o p q v (p:Int) _ (h2.below hb3)).mono ?_; rintro e w4 ⟨rfl,hb4⟩; rw [hok]; have hc4:=zD hw1 (zd b12 (zd hb3 hb4)))
 go_wp2_with fail
 refine (zal (some ⟨b,off,none⟩) n c o p q v _ (h2.below (zd hb3 hb4)) hn hp).mono ?_;rintro e w5' ⟨a5,c5,o5,q5,rfl,hO5,hb5⟩;generalize hw5:w5'.alloc (Obj.cells #[Value.slice a5 n c5,Value.slice o5 p q5] 29)=w5;have b55:=zb hw5;have b25:=zd hb3 (zd hb4 (zd hb5 b55));have b05:=zd b02 b25;have b15:=zd b12 b25;have k5:w5.heap[w5'.heap.size]? = some (.cells #[.slice a5 n c5,.slice o5 p q5] 29):=by rw [← hw5]; exact zy _ _
 have hO5:=hO5.below b55;have vv:Below w5.heap.size w5 w5.drew:=zv (Below.refl _ _);have vb:Below w2.heap.size w2 w5.drew:=zv b25;have z51:w5'.heap.size < w5.heap.size:=by rw [← hw5]; simp
 have z5:Hid (w5'.heap.size < w5.heap.size∧w2.heap.size≤w5'.heap.size∧w2.heap.size≤w4.heap.size):=hide ⟨z51,(zd hb3 (zd hb4 hb5)).size,(zd hb3 hb4).size⟩;clear z51;have i1:(0:Int)≤(k:Int):=by omega
 have i2:(k:Int)≤(c:Int):=by omega
 have i3:(0:Int)≤(k:Int)+1:=by omega
 have i4:(k:Int)+1≤(n:Int):=by omega
 have i5:IntKind.i64.wrap ((k:Int)+1)=(k:Int)+1:=by rw [IntKind.wrap_i64]; omega
 go_wp2_with fail
 refine wp_region_held_drew (S:=(fun W=>zcc W w.heap.size 0 (.slice (some ⟨b,off,none⟩) n c))) (by kernel_rfl) (zf hc2.1 vb) (fun hHeld => ?_);refine kK 1 ?_;refine kK 2 ?_;refine kK 3 ?_;refine kK 4 ?_;refine kK 6 ?_;refine kK 7 ?_;refine kK 8 ?_;refine kK 9 ?_;refine kK 10 ?_;refine kR 0 fun K hK => ?_
 go_simp
 first
 | refine zaO (K:=K _) (fun wx hk hbx => ?_)
 | refine zaB (K:=K _) (fun wx hk hbx => ?_)
 have hR:=za7 vrowF w5 wx 119 _ hk vv.size;have vv:=zd vv hbx;have vb:=zd vb hbx;clear hk hbx;refine kO hK (zf hc2.1 vb) fun hHeld => ?_
 clear hK K;refine kR 5 fun K hK => ?_
 refine zak (F:=vrowF) rfl _ _ 26 119 rfl w5.heap.size Tryz.underlying26 zby rfl (by decide) _ 0 [] rfl hR _ k c (v.rows.take k) rfl ((h.rows.below (zd b05 vv)).take (by omega)) (by omega) vv.size ?_;intro aoR cpR wx how hrow hgr hbx;have hR:=how;have vv:=vv.trans hbx;have vb:=vb.trans (hbx.mono b25.size);clear how hrow hgr hbx;simp only [Nat.zero_add,List.nil_append] at hR ⊢;refine kO hK (zf hc2.1 vb) fun hHeld => ?_
 clear hK K;refine kR 11 fun K hK => ?_
 refine zak (F:=vrowF) rfl _ _ 26 119 rfl w5.heap.size Tryz.underlying26 zby rfl (by decide) _ k (v.rows.take k) rfl hR _ (n - (k+1)) (c - (k+1)) (v.rows.drop (k+1)) rfl ((h.rows.below (zd b05 vv)).drop3 (by omega)) (by omega) vv.size ?_;intro aoR cpR wx how hrow hgr hbx;have hR:=how;have vv:=vv.trans hbx;have vb:=vb.trans (hbx.mono b25.size);clear how hrow hgr hbx;refine kO hK (zf hc2.1 vb) fun hHeld => ?_
 clear hK K;refine kK 12 ?_;refine kR 13 fun K hK => ?_
 have hbx:=ze k5 vv;obtain ⟨⟨g0,g1⟩,f0,f1⟩:=zB hbx;have hN:=zC (hO5.below vv).own (zl (rb:=w5'.heap.size) 0 (.slice aoR (k+(n - (k+1))) cpR)) (zaq (hO5.below vv).own hbx (by decide));have hR:=zM hR (zl (rb:=w5'.heap.size) 0 (.slice aoR (k+(n - (k+1))) cpR)) (by intro b hb; cases hb; exact z5.out.1);have kX:=zt (j:=0) hbx (.slice aoR (k+(n - (k+1))) cpR);go_simp;have vb:=zi vb z5.out.2.1 0 (.slice aoR (k+(n - (k+1))) cpR);refine kO hK (zf hc2.1 vb) fun hHeld => ?_
 clear hK K;refine wpAnyH_done (by kernel_rfl) ?_ _;have kX:(World.setCell wx ⟨w5'.heap.size,0,none⟩ (.slice aoR (k+(n - (k+1))) cpR)).heap[w5'.heap.size]? = some (.cells #[Value.slice aoR (k+(n - (k+1))) cpR,.slice o5 p q5] 29):=kX;generalize World.setCell wx ⟨w5'.heap.size,0,none⟩ (.slice aoR (k+(n - (k+1))) cpR)=w6 at hR hN kX vb ⊢;generalize k+(n - (k+1))=m at hR kX ⊢;generalize (if c=k+1 then some (⟨b,off,none⟩:Addr) else some ⟨b,off+(k+1)*3,none⟩)=ad;obtain ⟨⟨x0,x1⟩,-⟩:=zB kX;have y0:=zf hc2.1 vb;have y1:=zf hc2.2 vb;have hV:VOwn w6 w2.heap.size aoR m cpR o5 p q5 ⟨v.rows.take k++v.rows.drop (k+1),v.own⟩:=⟨zae hR b25.size,zae hN z5.out.2.2,h.own.byte⟩;have HV:=hide hV;clear hR hN hV hO5;go_wp2_with fail
 refine (zcj w2.heap.size aoR m cpR o5 p q5 _ (some ⟨b,off,none⟩) n c o p q v _ HV.out (h.below (zd b02 vb)) hn hp vb.size).mono ?_;rintro e w7 ⟨a7,n7,c7,o7,p7,q7,rfl,hO7,hb7⟩;obtain ⟨⟨g0,g1⟩,f0,f1⟩:=zB (ze k1 (zd vb hb7));have HB:=hide (zi (zi (zd (zd b02 vb) hb7) b01.size 0 (.slice a7 n7 c7)) b01.size 1 (.slice o7 p7 q7));have HO:=hide ((hO7.set2 (g:=w1.heap.size) z2.out (.slice a7 n7 c7) (.slice o7 p7 q7)).lt (base':=w.heap.size) b02.size);clear hO7;go_wp2;exact bodyPost_ret (v:=.tuple #[.agg #[.slice a7 n7 c7,.slice o7 p7 q7],.bool (orV ⟨v.rows.take k++v.rows.drop (k+1),v.own⟩ v).2]) (by simp [results,Tryz.results185,go_sem, *]) rfl ⟨_,_,_,_,_,_,rfl,HO.out,HB.out⟩

theorem zdN (a:Option Addr) (n c:Nat) (o:Option Addr) (p q:Nat) (v:VT) (id:Int) (w:World) (h:VTab w a n c o p q v) (hn:n≤16777216) (hp:p≤16777216) (hno:zL v p=false∨zaw v.rows id=none) :
  Calls Tryz.prog 185 #[.agg #[.slice a n c,.slice o p q],.int .i64 id] w fun e w'=>∃a' c' o' q',e=.returned (.tuple #[.agg #[.slice a' n c',.slice o' p q'],.bool false])∧VOwn w' w.heap.size a' n c' o' p q' v∧Below w.heap.size w w':=by
 generalize hw1:w.alloc (Obj.cells #[Value.slice a n c,Value.slice o p q] 29)=w1;generalize hw2:w1.alloc (Obj.cells #[Value.slice none 0 0,Value.slice none 0 0] 29)=w2;have b01:=zb hw1;have b12:=zb hw2;have b02:=zd b01 b12;have k1:=zk hw2;have z2:Hid (w1.heap.size < w2.heap.size):=hide (by rw [← hw2]; simp);have hc2:=zD hw1 b12;have h2:=h.below b02;cases hok:zL v p
 ·generalize hat:rowAt v.rows id=k;have HA:=hide hat;clear hat;go_enter Tryz.func185,Tryz.ntmps185;go_wp2_with (refine (za0 a n c v.rows o p q id _ h2.rows).mono ?_; rintro e w3 ⟨rfl,hb3⟩; rw [HA.out]; have hc3:=zD hw1 (zd b12 hb3))
  go_wp2_with (refine (zO a n c o p q v (p:Int) _ (h2.below hb3)).mono ?_; rintro e w4 ⟨rfl,hb4⟩; rw [hok]; have hc4:=zD hw1 (zd b12 (zd hb3 hb4)))
  (go_wp2_with fail);refine (zal a n c o p q v _ (h2.below (zd hb3 hb4)) hn hp).mono ?_;rintro e w5 ⟨a',c',o',q',rfl,hO,hb5⟩;have b25:=zd hb3 (zd hb4 hb5);obtain ⟨⟨g0,g1⟩,f0,f1⟩:=zB (ze k1 b25);have HB:=hide (zi (zi (zd b02 b25) b01.size 0 (.slice a' n c')) b01.size 1 (.slice o' p q'));have HO:=hide ((hO.set2 (g:=w1.heap.size) (Nat.lt_of_lt_of_le z2.out (zd hb3 hb4).size) (.slice a' n c') (.slice o' p q')).lt (base':=w.heap.size) (Nat.le_trans b02.size (zd hb3 hb4).size));clear hO;go_wp2;exact bodyPost_ret (v:=.tuple #[.agg #[.slice a' n c',.slice o' p q'],.bool false]) (by simp [results,Tryz.results185,go_sem, *]) rfl ⟨_,_,_,_,rfl,HO.out,HB.out⟩
 ·have hr:zaw v.rows id=none:=by
   rcases hno with h | h
   ·rw [hok] at h; cases h
   ·exact h
  have HA:Hid (rowAt v.rows id = -1):=hide (by unfold rowAt; rw [hr]);clear hr hno;go_enter Tryz.func185,Tryz.ntmps185;go_wp2_with (refine (za0 a n c v.rows o p q id _ h2.rows).mono ?_; rintro e w3 ⟨rfl,hb3⟩; rw [HA.out]; have hc3:=zD hw1 (zd b12 hb3))
  go_wp2_with (refine (zO a n c o p q v (p:Int) _ (h2.below hb3)).mono ?_; rintro e w4 ⟨rfl,hb4⟩; rw [hok]; have hc4:=zD hw1 (zd b12 (zd hb3 hb4)))
  (go_wp2_with fail);refine (zal a n c o p q v _ (h2.below (zd hb3 hb4)) hn hp).mono ?_;rintro e w5 ⟨a',c',o',q',rfl,hO,hb5⟩;have b25:=zd hb3 (zd hb4 hb5);obtain ⟨⟨g0,g1⟩,f0,f1⟩:=zB (ze k1 b25);have HB:=hide (zi (zi (zd b02 b25) b01.size 0 (.slice a' n c')) b01.size 1 (.slice o' p q'));have HO:=hide ((hO.set2 (g:=w1.heap.size) (Nat.lt_of_lt_of_le z2.out (zd hb3 hb4).size) (.slice a' n c') (.slice o' p q')).lt (base':=w.heap.size) (Nat.le_trans b02.size (zd hb3 hb4).size));clear hO;go_wp2;exact bodyPost_ret (v:=.tuple #[.agg #[.slice a' n c',.slice o' p q'],.bool false]) (by simp [results,Tryz.results185,go_sem, *]) rfl ⟨_,_,_,_,rfl,HO.out,HB.out⟩

theorem zcW (a:Option Addr) (n c:Nat) (o:Option Addr) (p q:Nat) (v:VT) (id:Int) (w:World) (h:VTab w a n c o p q v) (hn:n≤16777216) (hp:p≤16777216) :
  Calls Tryz.prog 185 #[.agg #[.slice a n c,.slice o p q],.int .i64 id] w fun e w'=>∃a' n' c' o' p' q',e=.returned (.tuple #[.agg #[.slice a' n' c',.slice o' p' q'],.bool (zbl v id).2])∧VOwn w' w.heap.size a' n' c' o' p' q' (zbl v id).1∧Below w.heap.size w w':=by
 have hl:=h.own.size;by_cases hno:zL v p=false∨zaw v.rows id=none
 ·have hd:zbl v id=(v,false):=by
   unfold zbl;rw [hl];rcases hno with h | h
   ·rw [h];cases zaw v.rows id <;> rfl
   ·rw [h]
  rw [hd];refine (zdN a n c o p q v id w h hn hp hno).mono ?_;rintro e w' ⟨a',c',o',q',rfl,hO,hb⟩;exact ⟨a',n,c',o',p,q',rfl,hO,hb⟩
 ·have hok:zL v p=true:=by
   cases h1:zL v p
   ·exact absurd (Or.inl h1) hno
   ·rfl
  cases hr:zaw v.rows id with
  | none=>exact absurd (Or.inr hr) hno
  | some k =>
   have hd:zbl v id=orV ⟨v.rows.take k++v.rows.drop (k+1),v.own⟩ v:=by
    unfold zbl;rw [hl,hr,hok]
    rfl
   rw [hd];have hkn:k < n:=by
    have:=(List.findIdx?_eq_some_iff_getElem.1 hr).1
    have:=h.rows.size
    omega
   obtain ⟨x,b,off,-,rfl,-⟩:=zaD h.rows k hkn;exact zdC b off n c o p q v id k w h hn hp hr hok

structure Between (B E:Nat) (w w':World):Prop where
 below:Below B w w'
 block:∀i,i < w.heap.size→E≤i→w'.heap[i]? = w.heap[i]?

theorem Between.of_below {B E:Nat} {w w':World} (h:Below w.heap.size w w') (hB:B≤w.heap.size):Between B E w w':=⟨h.mono hB,fun i hi _=>h.block i hi⟩

theorem Between.of_grown {B E:Nat} {w w':World} {row:Option Nat} (h:w.grownBy w' row) (hB:B≤w.heap.size) (hr:∀k,row=some k→B≤k∧k < E):Between B E w w' :=
 ⟨(Below.refl _ _).grown h hB (fun k hk=>(hr k hk).1),fun i hi hE=>h.block i hi (fun e=>by have:=hr i e.symm; omega)⟩

theorem Between.trans {B E:Nat} {w w1 w2:World} (h:Between B E w w1) (k:Between B E w1 w2):Between B E w w2 :=
 ⟨h.below.trans k.below,fun i hi hE=>(k.block i (Nat.lt_of_lt_of_le hi h.below.size) hE).trans (h.block i hi hE)⟩

theorem Between.own {B E:Nat} {w w':World} (h:Between B E w w') {base k:Nat} {e:TypeId} {v:Value} {n:Nat} {xs:List Value} (ho:w.ownsRow base e k v n xs) (hE:E≤base):w'.ownsRow base e k v n xs:=by
 have hlt:=ho.lt;obtain ⟨hl,ho | ⟨g,cap,cur,rfl,hg,hh,h1,h2,h3,h4⟩⟩:=ho
 ·exact ⟨hl,.inl ho⟩
 ·refine ⟨hl,.inr ⟨g,cap,cur,rfl,hg, ?_,h1,h2,h3,h4⟩⟩;rw [h.block g (hlt g rfl).2 (by omega)];exact hh

theorem VOwn.between {w w':World} {base:Nat} {a:Option Addr} {n c:Nat} {o:Option Addr} {p q:Nat} {v:VT} (h:VOwn w base a n c o p q v) {B E:Nat} (hb:Between B E w w') (hE:E≤base):VOwn w' base a n c o p q v :=
 ⟨hb.own h.rows hE,hb.own h.own hE,h.i64⟩

theorem zfQ (a:Option Addr) (n c:Nat) (o:Option Addr) (p q:Nat) (v:VT) (w:World) (h:VTab w a n c o p q v) (hn:n≤1048576) (hp:p≤1048576) :
  Calls Tryz.prog 93 #[.agg #[.slice a n c,.slice o p q]] w fun e w'=>∃a' c' o' q',e=.returned (.agg #[.slice a' n c',.slice o' p q'])∧VOwn w' w.heap.size a' n c' o' p q' v∧Below w.heap.size w w':=by
 generalize hw1:w.alloc (Obj.cells #[Value.slice a n c,Value.slice o p q] 74)=w1;generalize hw2:w1.alloc (Obj.cells #[Value.slice none 0 0,Value.slice none 0 0] 29)=w2;generalize hw3:w2.alloc (Obj.cells #[Value.slice none 0 0,Value.slice none 0 0] 29)=w3;have b01:=zb hw1;have b12:=zb hw2;have b23:=zb hw3;have b02:=zd b01 b12;have b03:=zd b02 b23;have b13:=zd b12 b23;have k1:=zk hw2;have k2:=zk hw3;have z2:w1.heap.size < w2.heap.size:=by rw [← hw2]; simp
 have z3:w2.heap.size < w3.heap.size:=by rw [← hw3]; simp
 have Z2:=hide z2;have Z3:=hide z3;clear z2 z3;obtain ⟨x0,x1⟩:=zD hw1 b13;go_enter Tryz.func93,Tryz.ntmps93;go_wp2_with fail
 refine (zfd a n c v.rows _ (h.rows.below b03) hn).mono ?_;rintro e w4 ⟨a4,c4,rfl,hR,-,hb4⟩;have k4:=ze k2 hb4;obtain ⟨⟨g0,g1⟩,f0,f1⟩:=zB k4;generalize hw5:w4.setCell ⟨w2.heap.size,0,none⟩ (.slice a4 n c4)=w5;have b45:Below w2.heap.size w4 w5:=by subst hw5; exact zi (Below.refl _ _) (Nat.le_refl _) _ _
 have b25:Below w2.heap.size w2 w5:=(zd b23 hb4).trans b45;have b15:=zd b12 b25;have b05:=zd b02 b25;have hR5:w5.ownsRow w3.heap.size 119 3 (.slice a4 n c4) n (vrowF.all v.rows):=by
  rw [← hw5];exact zM hR (zl (rb:=w2.heap.size) 0 _) (by intro b hb; cases hb; exact Z3.out)
 have k5:w5.heap[w2.heap.size]? = some (.cells #[.slice a4 n c4,.slice none 0 0] 29):=by
  have:=zt (j:=0) k4 (.slice a4 n c4)
  rw [hw5] at this;exact this
 have s35:Hid (w3.heap.size≤w5.heap.size):=hide (by have:=hb4.size; have:=b45.size; omega);obtain ⟨y0,y1⟩:=zD hw1 b15;clear hR x0 x1;go_wp2_with fail
 clear g0 g1 f0 f1;refine (zgn o p q v.own _ (h.own.below b05) (by omega)).mono ?_;rintro e w6 ⟨a6,c6,rfl,hI,-,hb6⟩;have k6:=ze k5 hb6;obtain ⟨⟨g0,g1⟩,f0,f1⟩:=zB k6;generalize hw7:w6.setCell ⟨w2.heap.size,1,none⟩ (.slice a6 p c6)=w7;have b67:Below w2.heap.size w6 w7:=by subst hw7; exact zi (Below.refl _ _) (Nat.le_refl _) _ _
 have b27:Below w2.heap.size w2 w7:=(b25.trans (hb6.mono b25.size)).trans b67;have b07:=zd b02 b27;have hR7:w7.ownsRow w3.heap.size 119 3 (.slice a4 n c4) n (vrowF.all v.rows):=by
  rw [← hw7];exact zM (zm hR5 hb6) (zl (rb:=w2.heap.size) 1 _) (by intro b hb; cases hb; exact Z3.out)
 have hI7:w7.ownsRow w3.heap.size 3 1 (.slice a6 p c6) p (cI v.own):=by
  rw [← hw7];exact zM (zae hI s35.out) (zl (rb:=w2.heap.size) 1 _) (by intro b hb; cases hb; exact Z3.out)
 have k7:w7.heap[w2.heap.size]? = some (.cells #[.slice a4 n c4,.slice a6 p c6] 29):=by
  have:=zt (j:=1) k6 (.slice a6 p c6)
  rw [hw7] at this;exact this
 have k71:=ze k1 b27;clear hI hR5 y0 y1;obtain ⟨⟨u0,u1⟩,-⟩:=zB k7;obtain ⟨⟨t0,t1⟩,e0,e1⟩:=zB k71;have hV:VOwn w7 w3.heap.size a4 n c4 a6 p c6 v:=⟨hR7,hI7,h.own.byte⟩;have HO:=hide ((hV.set2 (g:=w1.heap.size) (Nat.lt_trans Z2.out Z3.out) (.slice a4 n c4) (.slice a6 p c6)).lt (base':=w.heap.size) b03.size);have HB:=hide (zi (zi b07 b01.size 0 (.slice a4 n c4)) b01.size 1 (.slice a6 p c6));clear hV hR7 hI7;go_wp2;exact bodyPost_ret (v:=.agg #[.slice a4 n c4,.slice a6 p c6]) (by simp [results,Tryz.results93,go_sem, *]) rfl ⟨_,_,_,_,rfl,HO.out,HB.out⟩

theorem zfn (a:Option Addr) (n c:Nat) (o:Option Addr) (p q:Nat) (a2:Option Addr) (n2 c2:Nat) (o2:Option Addr) (p2 q2:Nat) (v:VT) (w:World) (h:VTab w a n c o p q v) (h2:VTab w a2 n2 c2 o2 p2 q2 v) :
  Calls Tryz.prog 97 #[.agg #[.slice a n c,.slice o p q],.agg #[.slice a2 n2 c2,.slice o2 p2 q2]] w fun e w'=>e=.returned (.bool true)∧Below w.heap.size w w':=by
 generalize hw1:w.alloc (Obj.cells #[Value.slice a n c,Value.slice o p q] 29)=w1;generalize hw2:w1.alloc (Obj.cells #[Value.slice a2 n2 c2,Value.slice o2 p2 q2] 29)=w2;have b01:=zb hw1;have b12:=zb hw2;have b02:=zd b01 b12;obtain ⟨x0,x1⟩:=zD hw1 b12;obtain ⟨x2,x3⟩:=zD hw2 (Below.refl _ w2);go_enter Tryz.func97,Tryz.ntmps97;go_wp2_with fail
 refine (zeC a n c a2 n2 c2 v.rows _ (h.rows.below b02) (h2.rows.below b02)).mono ?_;rintro e w3 ⟨rfl,hb3⟩;obtain ⟨y0,y1⟩:=zD hw1 (zd b12 hb3);obtain ⟨y2,y3⟩:=zD hw2 hb3;have b03:=zd b02 hb3;clear x0 x1 x2 x3;go_wp2_with fail
 refine (zfY o p q o2 p2 q2 v.own _ (h.own.below b03) (h2.own.below b03)).mono ?_;rintro e w4 ⟨rfl,m,rfl⟩;have HB:=hide (zhT b03 m);clear y0 y1 y2 y3;go_wp2;go_ret;exact ⟨rfl,HB.out⟩

theorem zfN (L:Int) (hL0:0≤L) (hL1:L≤1048576) (a:Option Addr) (n c:Nat) (o:Option Addr) (p q:Nat) (w:World) (hl:n≤maxLen) (hl2:p≤maxLen) :
  Calls Tryz.prog 86 #[.agg #[.slice a n c,.slice o p q],.int .i64 L] w fun e w'=>e=.returned (.int .i64 (if (n:Int)+(p:Int)≤L then L - n - p else -1))∧Below w.heap.size w w':=by
 generalize hw1:w.alloc (Obj.cells #[Value.slice a n c,Value.slice o p q] 74)=w1;have b01:=zb hw1;obtain ⟨x0,x1⟩:=zD hw1 (Below.refl _ w1);generalize hV:(if (n:Int)+(p:Int)≤L then L - n - p else -1)=V;have HV:=hide hV;clear hV;go_enter Tryz.func86,Tryz.ntmps86;go_wp2_with fail
 refine (zfM a n c L _ hl (by omega) (by omega)).mono ?_;rintro e w2 ⟨rfl,e2⟩;obtain rfl:=e2.symm;by_cases h1:(n:Int)≤L
 ·rw [if_pos h1];have j1:¬(L - (n:Int) < 0):=by omega
  (go_wp2_with fail);refine (zfL o p q (L - n) _ hl2 (by omega) (by omega)).mono ?_;rintro e w2 ⟨rfl,e2⟩;obtain rfl:=e2.symm;by_cases h2:(p:Int)≤L - n
  ·rw [if_pos h2];have j2:¬(L - (n:Int) - (p:Int) < 0):=by omega
   have HE:Hid (V=L - n - p):=hide (by rw [← HV.out,if_pos (by omega)]);go_wp2;go_ret;exact ⟨(by rw [HE.out]; rfl),b01⟩
  ·rw [if_neg h2];have HE:Hid (V = -1):=hide (by rw [← HV.out,if_neg (by omega)]);go_wp2;go_ret;exact ⟨(by rw [HE.out]; rfl),b01⟩
 ·rw [if_neg h1];have HE:Hid (V = -1):=hide (by rw [← HV.out,if_neg (by omega)]);go_wp2;go_ret;exact ⟨(by rw [HE.out]; rfl),b01⟩

def markT (k:Int) (n p:Nat):VT:=⟨zbv k n,zaI (k+3*n) p⟩

theorem zen (K:Int) (hK0:0≤K) (hK1:K≤549755813888) (B E:Nat) (a:Option Addr) (n c:Nat) (o:Option Addr) (p q:Nat) (v:VT) (w:World) (h:VOwn w B a n c o p q v) (hB:B≤w.heap.size) (hE1:∀k,(Value.slice a n c).ownBlock=some k→k < E) (hE2:∀k,(Value.slice o p q).ownBlock=some k→k < E) (hn:n≤16777216) (hp:p≤16777216) :
  Calls Tryz.prog 100 #[.agg #[.slice a n c,.slice o p q],.int .i64 K] w fun e w'=>e=.returned (.int .i64 (K+3*n+p))∧VOwn w' B a n c o p q (markT K n p)∧Between B E w w'∧(∀(b2 k2:Nat) (e2:TypeId) (v2:Value) (n2:Nat) (xs2:List Value),w.ownsRow b2 e2 k2 v2 n2 xs2→(e2:Nat)≠119→(e2:Nat)≠3→w'.ownsRow b2 e2 k2 v2 n2 xs2):=by
 have l1:=h.rows.lt;have l2:=h.own.lt;generalize hw1:w.alloc (Obj.cells #[Value.slice a n c,Value.slice o p q] 29)=w1;have b01:=zb hw1;have kb:=zk hw1;obtain ⟨⟨x0,x1⟩,-⟩:=zB kb;have h1:=h.below b01;have bt1:Between B E w w1:=Between.of_below b01 hB;go_enter Tryz.func100,Tryz.ntmps100;go_wp2_with fail
 refine (zdr B a n c v.rows K _ h1.rows hn (by omega) (by omega)).mono ?_;rintro e w2 ⟨rfl,hR,hg⟩;have bt2:=bt1.trans (Between.of_grown hg (Nat.le_trans hB b01.size) (fun k hk=>⟨(l1 k hk).1,hE1 k hk⟩));have hI:=zah h1.own h1.rows (by decide) hg;have kb2:=zr kb hg (fun k hk=>by have:=(l1 k hk).2; omega);obtain ⟨⟨y0,y1⟩,-⟩:=zB kb2;have hg2:=hg;clear x0 x1 hg;go_wp2_with fail
 refine (zci B o p q v.own (K+3*n) _ hI hp (by omega) (by omega)).mono ?_;rintro e w3 ⟨rfl,hI3,hg⟩;have bt3:=bt2.trans (Between.of_grown hg (Nat.le_trans hB bt2.below.size) (fun k hk=>⟨(l2 k hk).1,hE2 k hk⟩));have hR3:=zah hR hI (by decide) hg;have HO:Hid (VOwn w3 B a n c o p q (markT K n p)):=hide ⟨hR3,hI3,zds _ _ (by omega) (by omega) hp⟩;have HT:=hide bt3;have HK:Hid ((∀(b2 k2:Nat) (e2:TypeId) (v2:Value) (n2:Nat) (xs2:List Value),w.ownsRow b2 e2 k2 v2 n2 xs2→(e2:Nat)≠119→(e2:Nat)≠3→w3.ownsRow b2 e2 k2 v2 n2 xs2)):=hide (fun b2 k2 e2 v2 n2 xs2 ho hn1 hn2=>zah (zah (zm ho b01) h1.rows hn1 hg2) hI hn2 hg);clear hR hI hR3 hI3 hg hg2 y0 y1 bt2 bt3;go_wp2;go_ret;exact ⟨rfl,HO.out,HT.out,HK.out⟩

end Go.Proofs.YtcpdkcdfnpcemaaGreat
