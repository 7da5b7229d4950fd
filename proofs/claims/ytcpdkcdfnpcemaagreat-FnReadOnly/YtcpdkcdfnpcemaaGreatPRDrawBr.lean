/-
  A bridge that is drawn, and is right.
-/
import Derived.Test.YtcpdkcdfnpcemaaGreatPRDrawVtab
import Derived.Test.YtcpdkcdfnpcemaaGreatPRK19
namespace Go.Proofs.YtcpdkcdfnpcemaaGreat
set_option maxRecDepth 100000
set_option maxHeartbeats 16000000
open Go.RowKit

structure DIn (B:BR) (m:Nat):Prop where
 id:1≤B.id∧B.id≤5
 name:B.name.size≤10
 len:B.ports.length=m
 ports:∀x∈B.ports,ptOk x=true
 f:fdbOk B.f=true
 here:∀e∈B.f,0≤e.p∧e.p < (m:Int)
 v:zbm B.v m 6
 z:B.parse=0∧B.word=0∧B.drops=0
 t:0≤B.ticks∧B.ticks≤4
 n:0≤B.vers∧B.vers≤1000000

theorem ziW {l:List FE} (h:Sorted l) {e:FE} {m:Nat} (ha:∀x∈l,0≤x.p∧x.p < (m:Int)) (he:0≤e.p∧e.p < (m:Int)):∀x∈putF8 e l,0≤x.p∧x.p < (m:Int):=by
 intro x hx;rw [zch h,zev h] at hx;rcases hx with rfl | ⟨hx,-⟩
 ·exact he
 ·exact ha x hx

theorem DIn.learn {B:BR} {m:Nat} (h:DIn B m) (t y:Int) {p:Int} (hp:0≤p∧p < (m:Int)):DIn { B with f:=zbo B.f t y p } m:=by
 refine ⟨h.id,h.name,h.len,h.ports,zin h.f t y p, ?_,h.v,h.z,h.t,h.n⟩;have hs:=((zaW B.f).1 h.f).1
 show ∀e∈zbo B.f t y p,_
 unfold zbo
 split
 ·exact ziW hs h.here hp
 ·exact h.here

theorem DIn.setS {B:BR} {m:Nat} (h:DIn B m) (t y:Int) {p:Int} (hp:0≤p∧p < (m:Int)):DIn { B with f:=setF B.f t y p } m:=by
 refine ⟨h.id,h.name,h.len,h.ports,zjt h.f t y p, ?_,h.v,h.z,h.t,h.n⟩;have hs:=((zaW B.f).1 h.f).1
 show ∀e∈setF B.f t y p,_
 unfold setF
 split
 ·exact ziW hs h.here hp
 ·exact h.here

theorem zfZ {p:Nat} (h1:1≤p) (h6:p≤6):zbm (zbQ p) p 1:=by
 have hin:(decide (1≤(p:Int)) && decide ((p:Int)≤6))=true:=by simp; omega
 obtain ⟨hA1,hA2⟩:=zdo p h1 h6;refine ⟨?_,zdX hin⟩;rw [zb7 hin];refine ⟨fun r hr => ?_,by simp,Nat.le_refl _⟩
 have:r=⟨1,allOf p,allOf p⟩:=by simpa using hr
 subst this;unfold VR.Few VR.Rng I64
 simp only
 omega

structure DbSt (w wr:World) (C:Nat) (a0:Option Addr) (l0 c0:Nat) (z0:List Int) (X:Nat) (a:Option Addr) (n c:Nat) (fa:Option Addr) (fn fc:Nat) (ra:Option Addr) (rn rc:Nat) (oa:Option Addr) (on oc:Nat) (B:BR):Prop where
 box:wr.heap[X]? = some (.cells #[.int .i64 B.id,.string B.name,.slice a n c,.slice fa fn fc,.slice ra rn rc,.slice oa on oc,.int .i64 B.ticks,.int .i64 B.parse,.int .i64 B.word,.int .i64 B.drops,.int .i64 B.vers] 31)
 own:BrOwn wr w.heap.size a n c fa fn fc ra rn rc oa on oc B
 res:wr.heap[w.heap.size]? = some (.cells #[.int .i64 0,.string ⟨#[]⟩,.slice none 0 0,.slice none 0 0,.slice none 0 0,.slice none 0 0,.int .i64 0,.int .i64 0,.int .i64 0,.int .i64 0,.int .i64 0] 31)
 went:Went w wr C a0 l0 c0 z0
 hC:C < w.heap.size
 hX:w.heap.size < X

theorem DbSt.size {w wr:World} {C:Nat} {a0:Option Addr} {l0 c0:Nat} {z0:List Int} {X:Nat} {a:Option Addr} {n c:Nat} {fa:Option Addr} {fn fc:Nat} {ra:Option Addr} {rn rc:Nat} {oa:Option Addr} {on oc:Nat} {B:BR} (h:DbSt w wr C a0 l0 c0 z0 X a n c fa fn fc ra rn rc oa on oc B):w.heap.size≤wr.heap.size:=h.went.grown.size

theorem DbSt.below {w wr wx:World} {C:Nat} {a0:Option Addr} {l0 c0:Nat} {z0:List Int} {X:Nat} {a:Option Addr} {n c:Nat} {fa:Option Addr} {fn fc:Nat} {ra:Option Addr} {rn rc:Nat} {oa:Option Addr} {on oc:Nat} {B:BR} (h:DbSt w wr C a0 l0 c0 z0 X a n c fa fn fc ra rn rc oa on oc B) (hb:Below wr.heap.size wr wx):DbSt w wx C a0 l0 c0 z0 X a n c fa fn fc ra rn rc oa on oc B :=
 ⟨ze h.box hb,h.own.below hb,ze h.res hb,h.went.made hb,h.hC,h.hX⟩

theorem DbSt.draw {w wr wx:World} {C:Nat} {a0:Option Addr} {l0 c0:Nat} {z0:List Int} {X:Nat} {a:Option Addr} {n c:Nat} {fa:Option Addr} {fn fc:Nat} {ra:Option Addr} {rn rc:Nat} {oa:Option Addr} {on oc:Nat} {B:BR} (h:DbSt w wr C a0 l0 c0 z0 X a n c fa fn fc ra rn rc oa on oc B) (g:Went wr wx C a0 l0 c0 z0):DbSt w wx C a0 l0 c0 z0 X a n c fa fn fc ra rn rc oa on oc B:=by
 have hC:=h.hC;have hX:=h.hX;exact ⟨zA h.box g.grown (by intro k e; cases e; omega),h.own.apart g.grown (by intro b e; cases e; exact hC),zA h.res g.grown (by intro k e; cases e; omega),h.went.trans g,hC,hX⟩

theorem DbSt.put {w wr:World} {C:Nat} {a0:Option Addr} {l0 c0:Nat} {z0:List Int} {X:Nat} {a:Option Addr} {n c:Nat} {fa:Option Addr} {fn fc:Nat} {ra:Option Addr} {rn rc:Nat} {oa:Option Addr} {on oc:Nat} {B:BR} (h:DbSt w wr C a0 l0 c0 z0 X a n c fa fn fc ra rn rc oa on oc B) {a':Option Addr} {n' c':Nat} {fa':Option Addr} {fn' fc':Nat} {B':BR} (hO:BrOwn wr w.heap.size a' n' c' fa' fn' fc' ra rn rc oa on oc B') (j:Nat) (u:Value)
  (he:#[.int .i64 B.id,.string B.name,.slice a n c,.slice fa fn fc,.slice ra rn rc,.slice oa on oc,.int .i64 B.ticks,.int .i64 B.parse,.int .i64 B.word,.int .i64 B.drops,.int .i64 B.vers].setIfInBounds j u=#[.int .i64 B'.id,.string B'.name,.slice a' n' c',.slice fa' fn' fc',.slice ra rn rc,.slice oa on oc,.int .i64 B'.ticks,.int .i64 B'.parse,.int .i64 B'.word,.int .i64 B'.drops,.int .i64 B'.vers]):DbSt w (wr.setCell ⟨X,j,none⟩ u) C a0 l0 c0 z0 X a' n' c' fa' fn' fc' ra rn rc oa on oc B' :=
 ⟨by rw [← he]; exact box11 h.box j u,hO.boxed h.box j u,zx h.res (Nat.ne_of_lt h.hX),h.went.madeAt (zg (Below.refl w.heap.size wr) (Nat.le_of_lt h.hX) j u) h.hC (Nat.le_refl _),h.hC,h.hX⟩

theorem DbSt.putV {w wr:World} {C:Nat} {a0:Option Addr} {l0 c0:Nat} {z0:List Int} {X:Nat} {a:Option Addr} {n c:Nat} {fa:Option Addr} {fn fc:Nat} {ra:Option Addr} {rn rc:Nat} {oa:Option Addr} {on oc:Nat} {B:BR} (h:DbSt w wr C a0 l0 c0 z0 X a n c fa fn fc ra rn rc oa on oc B) {ra':Option Addr} {rn' rc':Nat} {oa':Option Addr} {on' oc':Nat} {V:VT} (hV:VOwn wr w.heap.size ra' rn' rc' oa' on' oc' V) :
  DbSt w ((wr.setCell ⟨X,4,none⟩ (.slice ra' rn' rc')).setCell ⟨X,5,none⟩ (.slice oa' on' oc')) C a0 l0 c0 z0 X a n c fa fn fc ra' rn' rc' oa' on' oc' { B with v:=V } :=
 ⟨box11 (box11 h.box 4 _) 5 _,((h.own.putV (Below.refl _ _) hV).boxed h.box 4 _).boxed (box11 h.box 4 _) 5 _,zx (zx h.res (Nat.ne_of_lt h.hX)) (Nat.ne_of_lt h.hX),h.went.madeAt (zg (zg (Below.refl w.heap.size wr) (Nat.le_of_lt h.hX) 4 _) (Nat.le_of_lt h.hX) 5 _) h.hC (Nat.le_refl _),h.hC,h.hX⟩

theorem zfF (C:Nat) (a0:Option Addr) (l0 c0:Nat) (z0:List Int) (w:World) (hc:Cur w C a0 l0 c0 z0) :
  Calls Tryz.prog 41 #[.pointer (some ⟨C,0,none⟩)] w fun e w'=>∃(m:Nat) (a:Option Addr) (c:Nat) (fa:Option Addr) (fn fc:Nat) (ra:Option Addr) (rn rc:Nat) (oa:Option Addr) (on oc:Nat) (B:BR),e=.returned (.agg #[.int .i64 B.id,.string B.name,.slice a m c,.slice fa fn fc,.slice ra rn rc,.slice oa on oc,.int .i64 B.ticks,.int .i64 B.parse,.int .i64 B.word,.int .i64 B.drops,.int .i64 B.vers])∧BrOwn w' w.heap.size a m c fa fn fc ra rn rc oa on oc B∧DIn B m∧1≤m∧m≤4∧Went w w' C a0 l0 c0 z0:=by
 have hlt:=hc.lt;generalize hw1:w.alloc (Obj.cells #[.int .i64 0,.string ⟨#[]⟩,.slice none 0 0,.slice none 0 0,.slice none 0 0,.slice none 0 0,.int .i64 0,.int .i64 0,.int .i64 0,.int .i64 0,.int .i64 0] 31)=w1;have b1:=zb hw1;have kJ:=zk hw1;have z1:w.heap.size < w1.heap.size:=by rw [← hw1]; simp
 have HZ1:=hide z1;have wn1:=Went.start hc b1;clear b1 z1;go_enter Tryz.func41,Tryz.ntmps41;go_wp2_with fail
 clear hw1;refine (zL C a0 l0 c0 z0 4 _ wn1.cur (by omega)).mono ?_;rintro e w2 ⟨x,rfl,hx0,hx1,-,wt⟩;have hx1:=hx1 (by omega);obtain ⟨m,hm⟩:∃m:Nat,1+x=(m:Int):=⟨(1+x).toNat,by omega⟩;have h1:1≤m:=by omega
 have h4:m≤4:=by omega
 have wn2:=wn1.trans wt;have kJ:=zA kJ wt.grown (by intro k e; cases e; omega);clear wt;go_wp2_with fail
 refine (zL C a0 l0 c0 z0 5 _ wn2.cur (by omega)).mono ?_;rintro e w3 ⟨y,rfl,hy0,hy1,-,wt⟩;have hy1:=hy1 (by omega);have wn3:=wn2.trans wt;have kJ:=zA kJ wt.grown (by intro k e; cases e; omega);have HI:Hid (1≤1+y∧1+y≤5):=hide (by omega);have hi1:(decide (1≤1+y) && decide (1+y≤99))=true:=by simp; omega
 have hm1:(decide (1≤(m:Int)) && decide ((m:Int)≤6))=true:=by simp; omega
 have HI1:=hide hi1;have HM1:=hide hm1;clear wt wn1 wn2 hi1 hm1 hx0 hx1;go_wp2_with fail
 refine (zcV (1+y) m _ HI1.out HM1.out).mono ?_;rintro e w4 ⟨a,c,ra,rn,rc,oa,on,oc,rfl,o4,hb4⟩;have o4:=o4.lt (base':=w.heap.size) wn3.grown.size;have kJ:=ze kJ hb4;have wn4:=wn3.made hb4;have hX:w.heap.size < w4.heap.size:=(Array.getElem?_eq_some_iff.1 kJ).1;have hD:DIn (zaP (1+y) m) m:=⟨HI.out,(by decide:(ByteArray.empty).size≤10),(by simp [zaP]),(by intro q hq; rw [List.eq_of_mem_replicate hq]; rfl),rfl,(by intro q hq; cases hq),⟨(zfZ h1 (by omega)).toFine.mono (by omega),(zfZ h1 (by omega)).ok⟩,⟨rfl,rfl,rfl⟩,⟨(by simp [zaP]),(by simp [zaP])⟩,⟨(by simp [zaP]),(by simp [zaP])⟩⟩;go_upto_region 3 with fail
 generalize hw5:w4.alloc (Obj.cells #[.int .i64 (1+y),.string ⟨#[]⟩,.slice a m c,.slice none 0 0,.slice ra rn rc,.slice oa on oc,.int .i64 0,.int .i64 0,.int .i64 0,.int .i64 0,.int .i64 0] 31)=w5;have b5:=zb hw5;have st:DbSt w w5 C a0 l0 c0 z0 w4.heap.size a m c none 0 0 ra rn rc oa on oc (zaP (1+y) m):=⟨by rw [← hw5]; exact zv _ _,o4.below b5,ze kJ b5,wn4.made b5,hlt,hX⟩;generalize hB1:zaP (1+y) m=B at st hD;generalize hXX:w4.heap.size=X at st;clear hB1 hw5 b5 kJ wn3 wn4 o4 hb4 hX;have HD:=hide hD;clear hD;go_wp2_with fail
 refine (zgB 10 C a0 l0 c0 z0 _ _ _ w5 st.went.cur rfl ?h1a ?h2a ?h3a ?h4a).mono ?_
 case h1a=>rfl
 case h2a=>kernel_rfl
 case h3a=>decide
 case h4a=>decide
 rintro e w6 ⟨S,hS,rfl,wt⟩;have st:=st.draw wt;have hD:DIn { B with name:=S } m:=⟨HD.out.id,hS,HD.out.len,HD.out.ports,HD.out.f,HD.out.here,HD.out.v,HD.out.z,HD.out.t,HD.out.n⟩;have st2:=st.put (B':={ B with name:=S }) ⟨st.own.ports,st.own.f,st.own.v⟩ 1 (.string S) rfl;obtain ⟨x0,x1,x2,x3,x4,x5,x6,x7,x8,x9,x10⟩:=zj st.box;have f1:=zm st.box 1;clear wt hS HD st;generalize hB2:({ B with name:=S }:BR)=B2 at st2 hD;clear hB2;have HD:=hide hD;clear hD;go_upto_region 4 with fail
 clear f1 x0 x1 x2 x3 x4 x5 x6 x7 x8 x9 x10;generalize hw7:w6.setCell ⟨X,1,none⟩ (.string S)=w7 at *;clear hw7;go_wp2_with fail
 refine (zfE C a0 l0 c0 z0 (m:Int) m _ st2.went.cur rfl (by omega)).mono ?_;rintro e w8 ⟨a8,c8,l8,rfl,hl8,hp8,o8,wt⟩;have st:=st2.draw wt;have o8:=zW o8 (base':=w.heap.size) st2.size;have hD:DIn { B2 with ports:=l8 } m:=⟨HD.out.id,HD.out.name,hl8,hp8,HD.out.f,HD.out.here,HD.out.v,HD.out.z,HD.out.t,HD.out.n⟩;have st3:=st.put (B':={ B2 with ports:=l8 }) (st.own.putPorts (Below.refl _ _) o8) 2 (.slice a8 m c8) rfl;obtain ⟨x0,x1,x2,x3,x4,x5,x6,x7,x8,x9,x10⟩:=zj st.box;have f2:=zm st.box 2;clear wt HD st st2 o8 hl8 hp8;generalize hB3:({ B2 with ports:=l8 }:BR)=B3 at st3 hD;clear hB3;have HD:=hide hD;clear hD;go_upto_region 5 with fail
 clear f2 x0 x1 x2 x3 x4 x5 x6 x7 x8 x9 x10;generalize hw9:w8.setCell ⟨X,2,none⟩ (.slice a8 m c8)=w9 at *;clear hw9;go_wp2_with fail
 refine (zhc C a0 l0 c0 z0 m h1 (by omega) _ st3.went.cur).mono ?_;rintro e w10 ⟨ra9,rn9,rc9,oa9,on9,oc9,v9,rfl,o9,hF9,wt⟩;have st:=st3.draw wt;have o9:=o9.lt (base':=w.heap.size) st3.size;have hD:DIn { B3 with v:=v9 } m:=⟨HD.out.id,HD.out.name,HD.out.len,HD.out.ports,HD.out.f,HD.out.here,hF9,HD.out.z,HD.out.t,HD.out.n⟩;have st4:=st.putV o9;obtain ⟨x0,x1,x2,x3,x4,x5,x6,x7,x8,x9,x10⟩:=zj st.box;have f4:=zm st.box 4;have f5:=zm st.box 5;clear wt HD st st3 o9 hF9;generalize hB4:({ B3 with v:=v9 }:BR)=B4 at st4 hD;clear hB4;have HD:=hide hD;clear hD;go_upto_region 6 with fail
 clear f4 f5 x0 x1 x2 x3 x4 x5 x6 x7 x8 x9 x10;generalize hw11:(w10.setCell ⟨X,4,none⟩ (.slice ra9 rn9 rc9)).setCell ⟨X,5,none⟩ (.slice oa9 on9 oc9)=w11 at *;clear hw11;go_wp2_with fail
 refine (zL C a0 l0 c0 z0 6 _ st4.went.cur (by omega)).mono ?_;rintro e w12 ⟨q,rfl,hq0,hq1,-,wt⟩;have hq1:=hq1 (by omega);obtain ⟨mx,rfl⟩:∃j:Nat,q=j:=⟨q.toNat,by omega⟩;have st:=st4.draw wt;clear wt st4;obtain ⟨a,har⟩:∃y,y=a8:=⟨_,rfl⟩;subst har;obtain ⟨c,hcr⟩:∃y,y=c8:=⟨_,rfl⟩;subst hcr;obtain ⟨ra,hrar⟩:∃y,y=ra9:=⟨_,rfl⟩;subst hrar;obtain ⟨rn,hrnr⟩:∃y,y=rn9:=⟨_,rfl⟩;subst hrnr;obtain ⟨rc,hrcr⟩:∃y,y=rc9:=⟨_,rfl⟩;subst hrcr;obtain ⟨oa,hoar⟩:∃y,y=oa9:=⟨_,rfl⟩;subst hoar;obtain ⟨on,honr⟩:∃y,y=on9:=⟨_,rfl⟩;subst honr;obtain ⟨oc,hocr⟩:∃y,y=oc9:=⟨_,rfl⟩;subst hocr;go_wp2
 go_loopw [5] (fun i wr=>∃(k:Nat) (fa:Option Addr) (fn fc:Nat) (B:BR),k≤5∧i=.int .i64 k∧DbSt w wr C a0 l0 c0 z0 X a m c fa fn fc ra rn rc oa on oc B∧DIn B m) (fun i _=>(intOf i).toNat)
 case atStart=>exact ⟨mx,_,_,_,B4,by omega,rfl,st,HD.out⟩
 case round =>
  clear st HD;obtain ⟨k,fa,fn,fc,B,hk,rfl,st,hD⟩:=hrel;have HD:=hide hD;clear hD;by_cases hk0:0 < k
  ·(go_upto_region 9 with fail);have st:=st.below (zr (Below.refl _ _));obtain ⟨x0,x1,x2,x3,x4,x5,x6,x7,x8,x9,x10⟩:=zj st.box;(go_wp2_with fail);refine wp_region_held_drew (S:=(fun _=>True)) (by kernel_rfl) (trivial) (fun hHeld => ?_)
   repeat' first
   |
    with_reducible refine kLa ?_
    first
    |
     refine kLf 0 ?_;refine kK 0 ?_
    |
     refine kLf 2 ?_;refine kK 2 ?_
    |
     refine kLf 5 ?_;refine kK 5 ?_
    |
     refine kLf 7 ?_;refine kK 7 ?_
    |
     refine kLf 8 ?_;refine kK 8 ?_
    |
     refine kLf 4 ?_;refine kK 4 ?_
    |
     refine kLf 11 ?_;refine kK 11 ?_
    |
     refine kLp [1,3] ?_
    |
     refine kLp [3] ?_
    |
     refine kLp [6] ?_
    |
     refine kLp [9] ?_
    |
     refine kLp [10] ?_
    |
     refine kLp [12] ?_
    |
     refine kLp [1,6] ?_
    |
     refine kLp [1,9] ?_
    |
     refine kLp [1] ?_
    |
     refine wpAnyH_done (by kernel_rfl) ?_ _;clear hHeld;generalize zbo B.f (1+y) z p=L7 at st hD7 ⊢;generalize hB7:({ B with f:=L7 }:BR)=B7 at st hD7;clear hB7;go_wp2
     go_roundw
     case rel=>exact ⟨k - 1,_,_,_,B7,by omega,by go_num,st,hD7⟩
     case measure=>simp [intOf]; omega
   |
    exact AllReadyH.nil
   |
    refine kLc 1 (fun K hK => ?_) ?_;go_simp;refine kO hK (trivial) fun hHeld => ?_
    clear hK K
   |
    refine kLc 3 (fun K hK => ?_) ?_;go_simp;refine (zL C a0 l0 c0 z0 3 _ st.went.cur (by omega)).mono ?_;rintro e wx ⟨y,rfl,y0,y1,-,wtx⟩;have y1:=y1 (by omega);have hwy:IntKind.i64.wrap (1+y)=1+y:=by rw [IntKind.wrap_i64]; omega
    have st:=st.draw wtx;clear wtx x0 x1 x2 x3 x4 x5 x6 x7 x8 x9 x10;obtain ⟨x0,x1,x2,x3,x4,x5,x6,x7,x8,x9,x10⟩:=zj st.box;(go_wp2_with fail);refine kO hK (trivial) fun hHeld => ?_
    clear hK K
   |
    refine kLc 6 (fun K hK => ?_) ?_;go_simp;refine (zhe C a0 l0 c0 z0 _ st.went.cur).mono ?_;rintro e wx ⟨z,rfl,hz0,hz1,wtx⟩;have st:=st.draw wtx;clear wtx x0 x1 x2 x3 x4 x5 x6 x7 x8 x9 x10;obtain ⟨x0,x1,x2,x3,x4,x5,x6,x7,x8,x9,x10⟩:=zj st.box;(go_wp2_with fail);refine kO hK (trivial) fun hHeld => ?_
    clear hK K
   |
    refine kLc 9 (fun K hK => ?_) ?_;go_simp;refine (zL C a0 l0 c0 z0 (m:Int) _ st.went.cur (by omega)).mono ?_;rintro e wx ⟨p,rfl,p0,p1,-,wtx⟩;have p1:=p1 (by omega);have st:=st.draw wtx;clear wtx x0 x1 x2 x3 x4 x5 x6 x7 x8 x9 x10;obtain ⟨x0,x1,x2,x3,x4,x5,x6,x7,x8,x9,x10⟩:=zj st.box;(go_wp2_with fail);refine kO hK (trivial) fun hHeld => ?_
    clear hK K
   |
    refine kLc 10 (fun K hK => ?_) ?_;go_simp;refine (zeC fa fn fc B.f (1+y) z p _ st.own.row.f (by have:=st.own.row.f.size; have:=zho HD.out.f; omega)).mono ?_;rintro e wx ⟨fa7,fc7,rfl,oF,-,hb⟩;have hD7:=HD.out.learn (1+y) z (p:=p) ⟨p0,p1⟩;have oF:=zW oF (base':=w.heap.size) st.size;have st:=st.below hb;have hO:=st.own.putF (Below.refl _ _) oF;clear hb oF x0 x1 x2 x3 x4 x5 x6 x7 x8 x9 x10;obtain ⟨x0,x1,x2,x3,x4,x5,x6,x7,x8,x9,x10⟩:=zj st.box;(go_wp2_with fail);refine kO hK (trivial) fun hHeld => ?_
    clear hK K
   |
    refine kLc 12 (fun K hK => ?_) ?_;have f3:=zm st.box 3;go_simp;have st:=st.put hO 3 (.slice fa7 (zbo B.f (1+y) z p).length fc7) rfl;clear f3 hO x0 x1 x2 x3 x4 x5 x6 x7 x8 x9 x10;refine kO hK (trivial) fun hHeld => ?_
    clear hK K
  ·have hk':k=0:=by omega
   subst hk';(go_wp2_with fail);refine (zdl C a0 l0 c0 z0 3 _ st.went.cur (by omega)).mono ?_;rintro e w13 ⟨q,rfl,wt⟩;have st:=st.draw wt;clear wt;cases q
   ·(go_wp2_with fail);refine (zL C a0 l0 c0 z0 5 _ st.went.cur (by omega)).mono ?_;rintro e w14 ⟨q,rfl,hq0,hq1,-,wt⟩;have hq1:=hq1 (by omega);have st:=st.draw wt;have hD:DIn { B with ticks:=q } m:=⟨HD.out.id,HD.out.name,HD.out.len,HD.out.ports,HD.out.f,HD.out.here,HD.out.v,HD.out.z,⟨hq0,by show q≤4; omega⟩,HD.out.n⟩;have st5:=st.put (B':={ B with ticks:=q }) ⟨st.own.ports,st.own.f,st.own.v⟩ 6 (.int .i64 q) rfl;obtain ⟨x0,x1,x2,x3,x4,x5,x6,x7,x8,x9,x10⟩:=zj st.box;have f6:=zm st.box 6;clear wt st HD;generalize hB5:({ B with ticks:=q }:BR)=B5 at st5 hD;clear hB5;have HD:=hide hD;clear hD;(go_upto_region 13 with fail);clear f6 x0 x1 x2 x3 x4 x5 x6 x7 x8 x9 x10;generalize hw15:w14.setCell ⟨X,6,none⟩ (.int .i64 q)=w15 at *;clear hw15;(go_wp2_with fail);refine (zbN C a0 l0 c0 z0 [0,1,5,1000000] _ _ w15 st5.went.cur rfl rfl (by simp) (by simp)).mono ?_;rintro e w16 ⟨v,hv,rfl,wt⟩;have hv:0≤v∧v≤1000000:=by simp at hv; omega
    have st:=st5.draw wt;have hD:DIn { B5 with vers:=v } m:=⟨HD.out.id,HD.out.name,HD.out.len,HD.out.ports,HD.out.f,HD.out.here,HD.out.v,HD.out.z,HD.out.t,hv⟩;have st6:=st.put (B':={ B5 with vers:=v }) ⟨st.own.ports,st.own.f,st.own.v⟩ 10 (.int .i64 v) rfl;obtain ⟨x0,x1,x2,x3,x4,x5,x6,x7,x8,x9,x10⟩:=zj st.box;have f10:=zm st.box 10;clear wt st st5 HD;generalize hB6:({ B5 with vers:=v }:BR)=B at st6 hD;clear hB6;have HD:=hide hD;clear hD;(go_upto_region 14 with fail);clear f10 x0 x1 x2 x3 x4 x5 x6 x7 x8 x9 x10;generalize hw17:w16.setCell ⟨X,10,none⟩ (.int .i64 v)=w17 at *;clear hw17;obtain ⟨x0,x1,x2,x3,x4,x5,x6,x7,x8,x9,x10⟩:=zj st6.box;obtain ⟨y0,y1,y2,y3,y4,y5,y6,y7,y8,y9,y10⟩:=zj st6.res;have fr:=zm st6.res;have f0:=fr 0;have f1:=fr 1;have f2:=fr 2;have f3:=fr 3;have f4:=fr 4;have f5:=fr 5;have f6:=fr 6;have f7:=fr 7;have f8:=fr 8;have f9:=fr 9;have f10:=fr 10;have ne1:¬X=w.heap.size:=by have:=st6.hX; omega
    have ne2:¬w.heap.size=X:=by have:=st6.hX; omega
    have HO:=hide (st6.own.boxed11 st6.res (.int .i64 B.id) (.string B.name) (.slice a m c) (.slice fa fn fc) (.slice ra rn rc) (.slice oa on oc) (.int .i64 B.ticks) (.int .i64 B.parse) (.int .i64 B.word) (.int .i64 B.drops) (.int .i64 B.vers));have HW:=hide (st6.went.madeAt (za3 (Below.refl w.heap.size w17) (Nat.le_refl w.heap.size) (.int .i64 B.id) (.string B.name) (.slice a m c) (.slice fa fn fc) (.slice ra rn rc) (.slice oa on oc) (.int .i64 B.ticks) (.int .i64 B.parse) (.int .i64 B.word) (.int .i64 B.drops) (.int .i64 B.vers)) hlt (Nat.le_refl _));clear st6 fr;go_wp2;exact bodyPost_ret (v:=.agg #[.int .i64 B.id,.string B.name,.slice a m c,.slice fa fn fc,.slice ra rn rc,.slice oa on oc,.int .i64 B.ticks,.int .i64 B.parse,.int .i64 B.word,.int .i64 B.drops,.int .i64 B.vers]) (by simp [results,Tryz.results41,go_sem, *]) rfl ⟨m,a,c,fa,fn,fc,ra,rn,rc,oa,on,oc,B,rfl,HO.out,HD.out,h1,h4,HW.out⟩
   ·(go_upto_region 11 with fail);have st:=st.below (zr (Below.refl _ _));obtain ⟨x0,x1,x2,x3,x4,x5,x6,x7,x8,x9,x10⟩:=zj st.box;(go_wp2_with fail);refine wp_region_held_drew (S:=(fun _=>True)) (by kernel_rfl) (trivial) (fun hHeld => ?_)
    repeat' first
    |
     with_reducible refine kLa ?_
     first
     |
      refine kLf 0 ?_;refine kK 0 ?_
     |
      refine kLf 2 ?_;refine kK 2 ?_
     |
      refine kLf 4 ?_;refine kK 4 ?_
     |
      refine kLf 5 ?_;refine kK 5 ?_
     |
      refine kLf 8 ?_;refine kK 8 ?_
     |
      refine kLf 9 ?_;refine kK 9 ?_
     |
      refine kLf 10 ?_;refine kK 10 ?_
     |
      refine kLf 11 ?_;refine kK 11 ?_
     |
      refine kLp [1,3] ?_
     |
      refine kLp [3] ?_
     |
      refine kLp [6] ?_
     |
      refine kLp [7] ?_
     |
      refine kLp [12] ?_
     |
      refine kLp [1,6] ?_
     |
      refine kLp [1] ?_
     |
      refine wpAnyH_done (by kernel_rfl) ?_ _;clear hHeld;generalize setF B.f 1 z p=L7 at st hD7;generalize hB7:({ B with f:=L7 }:BR)=B7 at st hD7;generalize L7.length=fn7 at *;clear hB7 HD;obtain ⟨B,hBr⟩:∃y,y=B7:=⟨_,rfl⟩;subst hBr;obtain ⟨fa,hfar⟩:∃y,y=fa7:=⟨_,rfl⟩;subst hfar;obtain ⟨fn,hfnr⟩:∃y,y=fn7:=⟨_,rfl⟩;subst hfnr;obtain ⟨fc,hfcr⟩:∃y,y=fc7:=⟨_,rfl⟩;subst hfcr;have HD:=hide hD7;(go_wp2_with fail);refine (zL C a0 l0 c0 z0 5 _ st.went.cur (by omega)).mono ?_;rintro e w14 ⟨q,rfl,hq0,hq1,-,wt⟩;have hq1:=hq1 (by omega);have st:=st.draw wt;have hD:DIn { B with ticks:=q } m:=⟨HD.out.id,HD.out.name,HD.out.len,HD.out.ports,HD.out.f,HD.out.here,HD.out.v,HD.out.z,⟨hq0,by show q≤4; omega⟩,HD.out.n⟩;have st5:=st.put (B':={ B with ticks:=q }) ⟨st.own.ports,st.own.f,st.own.v⟩ 6 (.int .i64 q) rfl;obtain ⟨x0,x1,x2,x3,x4,x5,x6,x7,x8,x9,x10⟩:=zj st.box;have f6:=zm st.box 6;clear wt st HD hD7;generalize hB5:({ B with ticks:=q }:BR)=B5 at st5 hD;clear hB5;have HD:=hide hD;clear hD;(go_upto_region 13 with fail);clear f6 x0 x1 x2 x3 x4 x5 x6 x7 x8 x9 x10;generalize hw15:w14.setCell ⟨X,6,none⟩ (.int .i64 q)=w15 at *;clear hw15;(go_wp2_with fail);refine (zbN C a0 l0 c0 z0 [0,1,5,1000000] _ _ w15 st5.went.cur rfl rfl (by simp) (by simp)).mono ?_;rintro e w16 ⟨v,hv,rfl,wt⟩;have hv:0≤v∧v≤1000000:=by simp at hv; omega
      have st:=st5.draw wt;have hD:DIn { B5 with vers:=v } m:=⟨HD.out.id,HD.out.name,HD.out.len,HD.out.ports,HD.out.f,HD.out.here,HD.out.v,HD.out.z,HD.out.t,hv⟩;have st6:=st.put (B':={ B5 with vers:=v }) ⟨st.own.ports,st.own.f,st.own.v⟩ 10 (.int .i64 v) rfl;obtain ⟨x0,x1,x2,x3,x4,x5,x6,x7,x8,x9,x10⟩:=zj st.box;have f10:=zm st.box 10;clear wt st st5 HD;generalize hB6:({ B5 with vers:=v }:BR)=B at st6 hD;clear hB6;have HD:=hide hD;clear hD;(go_upto_region 14 with fail);clear f10 x0 x1 x2 x3 x4 x5 x6 x7 x8 x9 x10;generalize hw17:w16.setCell ⟨X,10,none⟩ (.int .i64 v)=w17 at *;clear hw17;obtain ⟨x0,x1,x2,x3,x4,x5,x6,x7,x8,x9,x10⟩:=zj st6.box;obtain ⟨y0,y1,y2,y3,y4,y5,y6,y7,y8,y9,y10⟩:=zj st6.res;have fr:=zm st6.res;have f0:=fr 0;have f1:=fr 1;have f2:=fr 2;have f3:=fr 3;have f4:=fr 4;have f5:=fr 5;have f6:=fr 6;have f7:=fr 7;have f8:=fr 8;have f9:=fr 9;have f10:=fr 10;have ne1:¬X=w.heap.size:=by have:=st6.hX; omega
      have ne2:¬w.heap.size=X:=by have:=st6.hX; omega
      have HO:=hide (st6.own.boxed11 st6.res (.int .i64 B.id) (.string B.name) (.slice a m c) (.slice fa fn fc) (.slice ra rn rc) (.slice oa on oc) (.int .i64 B.ticks) (.int .i64 B.parse) (.int .i64 B.word) (.int .i64 B.drops) (.int .i64 B.vers));have HW:=hide (st6.went.madeAt (za3 (Below.refl w.heap.size w17) (Nat.le_refl w.heap.size) (.int .i64 B.id) (.string B.name) (.slice a m c) (.slice fa fn fc) (.slice ra rn rc) (.slice oa on oc) (.int .i64 B.ticks) (.int .i64 B.parse) (.int .i64 B.word) (.int .i64 B.drops) (.int .i64 B.vers)) hlt (Nat.le_refl _));clear st6 fr;go_wp2;exact bodyPost_ret (v:=.agg #[.int .i64 B.id,.string B.name,.slice a m c,.slice fa fn fc,.slice ra rn rc,.slice oa on oc,.int .i64 B.ticks,.int .i64 B.parse,.int .i64 B.word,.int .i64 B.drops,.int .i64 B.vers]) (by simp [results,Tryz.results41,go_sem, *]) rfl ⟨m,a,c,fa,fn,fc,ra,rn,rc,oa,on,oc,B,rfl,HO.out,HD.out,h1,h4,HW.out⟩
    |
     exact AllReadyH.nil
    |
     refine kLc 1 (fun K hK => ?_) ?_;go_simp;refine kO hK (trivial) fun hHeld => ?_
     clear hK K
    |
     refine kLc 3 (fun K hK => ?_) ?_;go_simp;refine (zhe C a0 l0 c0 z0 _ st.went.cur).mono ?_;rintro e wx ⟨z,rfl,hz0,hz1,wtx⟩;have st:=st.draw wtx;clear wtx x0 x1 x2 x3 x4 x5 x6 x7 x8 x9 x10;obtain ⟨x0,x1,x2,x3,x4,x5,x6,x7,x8,x9,x10⟩:=zj st.box;(go_wp2_with fail);refine kO hK (trivial) fun hHeld => ?_
     clear hK K
    |
     refine kLc 6 (fun K hK => ?_) ?_;go_simp;refine (zL C a0 l0 c0 z0 (m:Int) _ st.went.cur (by omega)).mono ?_;rintro e wx ⟨p,rfl,p0,p1,-,wtx⟩;have p1:=p1 (by omega);have st:=st.draw wtx;clear wtx x0 x1 x2 x3 x4 x5 x6 x7 x8 x9 x10;obtain ⟨x0,x1,x2,x3,x4,x5,x6,x7,x8,x9,x10⟩:=zj st.box;(go_wp2_with fail);refine kO hK (trivial) fun hHeld => ?_
     clear hK K
    |
     refine kLc 7 (fun K hK => ?_) ?_;go_simp;refine (zfQ fa fn fc B.f 1 z p _ st.own.row.f (by have:=st.own.row.f.size; have:=zho HD.out.f; omega)).mono ?_;rintro e wx ⟨fa7,fc7,rfl,oF,-,hb⟩;have hD7:=HD.out.setS 1 z (p:=p) ⟨p0,p1⟩;have oF:=zW oF (base':=w.heap.size) st.size;have st:=st.below hb;have hO:=st.own.putF (Below.refl _ _) oF;clear hb oF x0 x1 x2 x3 x4 x5 x6 x7 x8 x9 x10;obtain ⟨x0,x1,x2,x3,x4,x5,x6,x7,x8,x9,x10⟩:=zj st.box;(go_wp2_with fail);refine kO hK (trivial) fun hHeld => ?_
     clear hK K
    |
     refine kLc 12 (fun K hK => ?_) ?_;have f3:=zm st.box 3;go_simp;have st:=st.put hO 3 (.slice fa7 (setF B.f 1 z p).length fc7) rfl;clear f3 hO x0 x1 x2 x3 x4 x5 x6 x7 x8 x9 x10;refine kO hK (trivial) fun hHeld => ?_
     clear hK K

end Go.Proofs.YtcpdkcdfnpcemaaGreat
