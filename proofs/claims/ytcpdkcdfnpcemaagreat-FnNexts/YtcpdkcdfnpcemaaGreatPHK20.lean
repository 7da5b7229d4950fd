/-
  Packed: VtabPut DrawFdb BrBuild Box11 MibHelp.
-/
import Derived.Test.YtcpdkcdfnpcemaaGreatPHK19
import Derived.Test.YtcpdkcdfnpcemaaGreatPHVtabRow
namespace Go.Proofs.YtcpdkcdfnpcemaaGreat
set_option maxRecDepth 100000
set_option maxHeartbeats 16000000
open Go.RowKit

def zcw (v:VT) (r:VR):VT × Bool:=if zL v v.own.length then orV ⟨zF v.rows r false,v.own⟩ v else (v,false)

theorem zb3 (a:Option Addr) (n c:Nat) (o:Option Addr) (p q:Nat) (v:VT) (r:VR) (w:World) (h:VTab w a n c o p q v) (hn:n≤16777216) (hp:p≤16777216) :
  Calls Tryz.prog 186 #[.agg #[.slice a n c,.slice o p q],.agg #[.int .i64 r.i,.int .i64 r.m,.int .i64 r.b]] w fun e w'=>∃a' n' c' o' p' q',e=.returned (.tuple #[.agg #[.slice a' n' c',.slice o' p' q'],.bool (zcw v r).2])∧VOwn w' w.heap.size a' n' c' o' p' q' (zcw v r).1∧Below w.heap.size w w':=by
 generalize hw1:w.alloc (Obj.cells #[Value.slice a n c,Value.slice o p q] 29)=w1;generalize hw2:w1.alloc (Obj.cells #[Value.int .i64 r.i,Value.int .i64 r.m,Value.int .i64 r.b] 119)=w2;generalize hw3:w2.alloc (Obj.cells #[Value.slice none 0 0,Value.slice none 0 0] 29)=w3;have b01:=zb hw1;have b12:=zb hw2;have b23:=zb hw3;have b13:=zd b12 b23;have b03:=zd b01 b13;have k2:=zk hw3;have z3:Hid (w2.heap.size < w3.heap.size):=hide (by rw [← hw3]; simp);obtain ⟨e0,e0x⟩:=zD hw1 b12;have kr:=zk hw2;obtain ⟨⟨e1,e2,e3⟩,-⟩:=zcJ kr;have hb1:=zD hw1 b13;have h3:=h.below b03;have hl:=h.own.size;unfold zcw;rw [hl];cases hok:zL v p
 ·rw [if_neg Bool.false_ne_true];go_enter Tryz.func186,Tryz.ntmps186;go_wp2_with (refine (zO a n c o p q v (p:Int) _ h3).mono ?_; rintro e w4 ⟨rfl,hb4⟩; rw [hok]; have hc1:=zD hw1 (zd b13 hb4))
  go_wp2_with (refine (zal a n c o p q v _ (h3.below hb4) hn hp).mono ?_; rintro e w5 ⟨a',c',o',q',rfl,hO,hb5⟩; obtain ⟨⟨g0,g1⟩,f0,f1⟩:=zB (ze k2 (zd hb4 hb5)))
  have hbW:Below w.heap.size w ((w5.setCell ⟨w2.heap.size,0,none⟩ (.slice a' n c')).setCell ⟨w2.heap.size,1,none⟩ (.slice o' p q')):=zi (zi (zd b03 (zd hb4 hb5)) (zd b01 b12).size _ _) (zd b01 b12).size _ _;have hO':=(hO.set2 (g:=w2.heap.size) (by have:=hb4.size; have:=z3.out; omega) (.slice a' n c') (.slice o' p q')).lt (base':=w.heap.size) (by have:=hb4.size; have:=b03.size; omega);have HO:=hide hO';clear hO hO';exact bodyPost_ret (v:=.tuple #[.agg #[.slice a' n c',.slice o' p q'],.bool false]) (by simp [results,Tryz.results186,go_sem, *]) rfl ⟨_,_,_,_,_,_,rfl,HO.out,hbW⟩
 ·rw [if_pos rfl];go_enter Tryz.func186,Tryz.ntmps186;go_wp2_with (refine (zO a n c o p q v (p:Int) _ h3).mono ?_; rintro e w4 ⟨rfl,hb4⟩; rw [hok])
  have vv:Below w3.heap.size w3 w4.drew:=zv hb4;have vb:Below w2.heap.size w2 w4.drew:=zd b23 vv;refine wp_region_held_drew (S:=(fun W=>zcc W w.heap.size 0 (.slice a n c)∧zcc W w.heap.size 1 (.slice o p q)∧zcc W w1.heap.size 0 (.int .i64 r.i)∧zcc W w1.heap.size 1 (.int .i64 r.m)∧zcc W w1.heap.size 2 (.int .i64 r.b))) (by kernel_rfl) (⟨zf e0 vb,zf e0x vb,zf e1 vb,zf e2 vb,zf e3 vb⟩) (fun hHeld => ?_);refine kK 0 ?_;refine kK 1 ?_;refine kK 3 ?_;refine kR 2 fun K hK => ?_
  go_simp;refine (zfb a n c o p q v r _ (h3.below vv) hn hp).mono ?_;rintro e w5 ⟨a5,n5,c5,o5,q5,rfl,hO5,hb5⟩;have hO5:=hO5.lt (base':=w3.heap.size) vv.size;have vv:=zd vv hb5;have vb:=zd vb hb5;(go_wp2_with fail);refine kO hK (⟨zf e0 vb,zf e0x vb,zf e1 vb,zf e2 vb,zf e3 vb⟩) fun hHeld => ?_
  clear hK K;refine kR 4 fun K hK => ?_
  go_simp;refine (zcj w3.heap.size a5 n5 c5 o5 p q5 _ a n c o p q v _ hO5 (h3.below vv) hn hp vv.size).mono ?_;rintro e w6 ⟨a6,n6,c6,o6,p6,q6,rfl,hO6,hb6⟩;have vv:=zd vv hb6;have vb:=zd vb hb6;clear hO5;(go_wp2_with fail);refine kO hK (⟨zf e0 vb,zf e0x vb,zf e1 vb,zf e2 vb,zf e3 vb⟩) fun hHeld => ?_
  clear hK K;refine kK 5 ?_;refine kK 6 ?_;refine kR 7 fun K hK => ?_
  obtain ⟨⟨g0,g1⟩,f0,f1⟩:=zB (ze k2 vv);go_simp;have vb:=zi (zi vb (Nat.le_refl _) 0 (.slice a6 n6 c6)) (Nat.le_refl _) 1 (.slice o6 p6 q6);have hO6:=hO6.set2 (g:=w2.heap.size) z3.out (.slice a6 n6 c6) (.slice o6 p6 q6);refine kO hK (⟨zf e0 vb,zf e0x vb,zf e1 vb,zf e2 vb,zf e3 vb⟩) fun hHeld => ?_
  clear hK K;refine kK 8 ?_;refine wpAnyH_done (by kernel_rfl) ?_ _;have HO:=hide (hO6.lt (base':=w.heap.size) b03.size);have HB:=hide (zd (zd b01 b12) vb);clear hO6;go_wp2;exact bodyPost_ret (v:=.tuple #[.agg #[.slice a6 n6 c6,.slice o6 p6 q6],.bool (orV ⟨zF v.rows r false,v.own⟩ v).2]) (by simp [results,Tryz.results186,go_sem, *]) rfl ⟨_,_,_,_,_,_,rfl,HO.out,HB.out⟩

theorem zha (C:Nat) (a0:Option Addr) (l0 c0:Nat) (z0:List Int) (w:World) (hc:Cur w C a0 l0 c0 z0) :
  Calls Tryz.prog 110 #[.pointer (some ⟨C,0,none⟩)] w fun e w'=>∃y:Int,e=.returned (.int .i64 y)∧11≤y∧y≤14∧Went w w' C a0 l0 c0 z0:=by
 go_enter Tryz.func110,Tryz.ntmps110;go_wp2_with fail
 refine (zbw C a0 l0 c0 z0 [11,12,13,14] _ _ w hc rfl rfl (by simp) (by simp)).mono ?_;rintro e w2 ⟨y,hy,rfl,went2⟩;have hy:11≤y∧y≤14:=by simp at hy; omega
 go_wp2;go_ret;exact ⟨_,rfl,hy.1,hy.2,went2⟩

theorem zhg {l:List FE} (h:fdbOk l=true):l.length≤12:=((zaU l).1 h).2
theorem ok_rng {l:List FE} (h:fdbOk l=true):∀x∈l,x.Rng:=fun x hx=>ziE ((((zaU l).1 h).1).1 x hx)

structure BcSt (w wr:World) (R X:Nat) (cs:Array Value):Prop where
 box:wr.heap[X]? = some (.cells cs 31)
 res:wr.heap[R]? = some (.cells #[.int .i64 0,.string ⟨#[]⟩,.slice none 0 0,.slice none 0 0,.slice none 0 0,.slice none 0 0,.int .i64 0,.int .i64 0,.int .i64 0,.int .i64 0,.int .i64 0] 31)
 below:Below w.heap.size w wr
 hX:w.heap.size≤X
 hR:w.heap.size≤R
 ne:R≠X

theorem BcSt.later {w wr wx:World} {R X:Nat} {cs:Array Value} (h:BcSt w wr R X cs) (hb:Below wr.heap.size wr wx):BcSt w wx R X cs :=
 ⟨ze h.box hb,ze h.res hb,zd h.below hb,h.hX,h.hR,h.ne⟩

theorem BcSt.put {w wr:World} {R X:Nat} {cs:Array Value} (h:BcSt w wr R X cs) (j:Nat) (u:Value) {cs':Array Value} (he:cs.setIfInBounds j u=cs'):BcSt w (wr.setCell ⟨X,j,none⟩ u) R X cs' :=
 ⟨by rw [← he]; exact box11 h.box j u,zan h.res h.ne,zi h.below h.hX j u,h.hX,h.hR,h.ne⟩

theorem BcSt.grown {w wr wx:World} {R X:Nat} {cs:Array Value} (h:BcSt w wr R X cs) {base k:Nat} {e:TypeId} {v:Value} {n:Nat} {xs:List Value} (ho:wr.ownsRow base e k v n xs) (hne:(e:Nat)≠31) (hg:wr.grownBy wx v.ownBlock) (hb:Below w.heap.size wr wx):BcSt w wx R X cs :=
 ⟨zr h.box hg (fun i e=>zaq ho h.box hne i e),zr h.res hg (fun i e=>zaq ho h.res hne i e),h.below.trans hb,h.hX,h.hR,h.ne⟩

theorem BcSt.stay {w wr:World} {R X:Nat} {cs:Array Value} (h:BcSt w wr R X cs) {base k:Nat} {e:TypeId} {v:Value} {n:Nat} {xs:List Value} (ho:wr.ownsRow base e k v n xs) (hne:(e:Nat)≠31) (j:Nat) (u:Value):(wr.setCell ⟨X,j,none⟩ u).ownsRow base e k v n xs :=
 zC ho (zl (rb:=X) j u) (zaq ho h.box hne)

theorem BcSt.out {w wr:World} {R X:Nat} {cs:Array Value} (h:BcSt w wr R X cs) {base:Nat} {a:Option Addr} {n c:Nat} {fa:Option Addr} {fn fc:Nat} {ra:Option Addr} {rn rc:Nat} {oa:Option Addr} {on oc:Nat} {B:BR} (ho:BrOwn wr base a n c fa fn fc ra rn rc oa on oc B) (u0 u1 u2 u3 u4 u5 u6 u7 u8 u9 u10:Value):BrOwn (((((((((((wr.setCell ⟨R,0,none⟩ u0).setCell ⟨R,1,none⟩ u1).setCell ⟨R,2,none⟩ u2).setCell ⟨R,3,none⟩ u3).setCell ⟨R,4,none⟩ u4).setCell ⟨R,5,none⟩ u5).setCell ⟨R,6,none⟩ u6).setCell ⟨R,7,none⟩ u7).setCell ⟨R,8,none⟩ u8).setCell ⟨R,9,none⟩ u9).setCell ⟨R,10,none⟩ u10) base a n c fa fn fc ra rn rc oa on oc B∧Below w.heap.size w (((((((((((wr.setCell ⟨R,0,none⟩ u0).setCell ⟨R,1,none⟩ u1).setCell ⟨R,2,none⟩ u2).setCell ⟨R,3,none⟩ u3).setCell ⟨R,4,none⟩ u4).setCell ⟨R,5,none⟩ u5).setCell ⟨R,6,none⟩ u6).setCell ⟨R,7,none⟩ u7).setCell ⟨R,8,none⟩ u8).setCell ⟨R,9,none⟩ u9).setCell ⟨R,10,none⟩ u10) :=
 ⟨ho.boxed11 h.res u0 u1 u2 u3 u4 u5 u6 u7 u8 u9 u10,zbH h.below h.hR u0 u1 u2 u3 u4 u5 u6 u7 u8 u9 u10⟩

theorem zgD {w:World} {X:Nat} {c0 c1 c2 c3 c4 c5 c6 c7 c8 c9 c10:Value} {T:TypeId} (h:w.heap[X]? = some (.cells #[c0,c1,c2,c3,c4,c5,c6,c7,c8,c9,c10] T)) (u0 u1 u2 u3 u4 u5 u6 u7 u8 u9 u10:Value):(((((((((((w.setCell ⟨X,0,none⟩ u0).setCell ⟨X,1,none⟩ u1).setCell ⟨X,2,none⟩ u2).setCell ⟨X,3,none⟩ u3).setCell ⟨X,4,none⟩ u4).setCell ⟨X,5,none⟩ u5).setCell ⟨X,6,none⟩ u6).setCell ⟨X,7,none⟩ u7).setCell ⟨X,8,none⟩ u8).setCell ⟨X,9,none⟩ u9).setCell ⟨X,10,none⟩ u10).heap[X]? = some (.cells #[u0,u1,u2,u3,u4,u5,u6,u7,u8,u9,u10] T):=by
 have h':=(box11 (box11 (box11 (box11 (box11 (box11 (box11 (box11 (box11 (box11 (box11 h 0 u0) 1 u1) 2 u2) 3 u3) 4 u4) 5 u5) 6 u6) 7 u7) 8 u8) 9 u9) 10 u10);simp only [lA,lB,lC] at h';exact h'

theorem zgu {W:World} {X:Nat} {c0 c1 c2 c3 c4 c5 c6 c7 c8 c9 c10:Value} {T:TypeId} {K:World→Prop} (hk:W.heap[X]? = some (.cells #[c0,c1,c2,c3,c4,c5,c6,c7,c8,c9,c10] T)) (u0 u1 u2 u3 u4 u5 u6 u7 u8 u9 u10:Value) (h:∀wq,wq.heap[X]? = some (.cells #[u0,u1,u2,u3,u4,u5,u6,u7,u8,u9,u10] T)→W.grownBy wq (some X)→K wq):K (((((((((((W.setCell ⟨X,0,none⟩ u0).setCell ⟨X,1,none⟩ u1).setCell ⟨X,2,none⟩ u2).setCell ⟨X,3,none⟩ u3).setCell ⟨X,4,none⟩ u4).setCell ⟨X,5,none⟩ u5).setCell ⟨X,6,none⟩ u6).setCell ⟨X,7,none⟩ u7).setCell ⟨X,8,none⟩ u8).setCell ⟨X,9,none⟩ u9).setCell ⟨X,10,none⟩ u10) :=
 h _ (zgD hk u0 u1 u2 u3 u4 u5 u6 u7 u8 u9 u10) (zA (zA (zA (zA (zA (zA (zA (zA (zA (zA (zl _ _) (zl _ _)) (zl _ _)) (zl _ _)) (zl _ _)) (zl _ _)) (zl _ _)) (zl _ _)) (zl _ _)) (zl _ _)) (zl _ _))

theorem BrOwn.grownBox {w w':World} {base:Nat} {a:Option Addr} {n c:Nat} {fa:Option Addr} {fn fc:Nat} {ra:Option Addr} {rn rc:Nat} {oa:Option Addr} {on oc:Nat} {B:BR} (h:BrOwn w base a n c fa fn fc ra rn rc oa on oc B) {X:Nat} {cs:Array Value} (hX:w.heap[X]? = some (.cells cs 31)) (hg:w.grownBy w' (some X)):BrOwn w' base a n c fa fn fc ra rn rc oa on oc B :=
 ⟨zC h.ports hg (zaq h.ports hX (by decide)),zC h.f hg (zaq h.f hX (by decide)),⟨zC h.v.rows hg (zaq h.v.rows hX (by decide)),zC h.v.own hg (zaq h.v.own hX (by decide)),h.v.i64⟩⟩

theorem BOwns.between {w w':World} {base:Nat} {ao:Option Addr} {n cap:Nat} {l:List BI} (h:BOwns w base ao n cap l) {L E:Nat} (hb:Between L E w w') (hE:E≤base):BOwns w' base ao n cap l :=
 ⟨hb.own h.row hE,fun x hx=>⟨hb.own (h.item x hx).o hE,hb.own (h.item x hx).z hE,(h.item x hx).ob,(h.item x hx).zb,(h.item x hx).s⟩,h.apart⟩

theorem BOwn.between {w w':World} {base:Nat} {y:BI} (h:BOwn w base y) {L E:Nat} (hb:Between L E w w') (hE:E≤base):BOwn w' base y :=
 ⟨hb.own h.o hE,hb.own h.z hE,h.ob,h.zb,h.s⟩

theorem zi3 {w:World} {base:Nat} {y:BI} (h:BOwn w base y) (hl:LitB y.d):y.wt≤17:=by
 have h1:y.on=y.o.length:=by have:=h.o.1; simp [cI] at this; omega
 have h2:y.zn=y.z.length:=by have:=h.z.1; simp [cI] at this; omega
 have h3:y.o.length≤7:=hl.o;have h4:y.S.size≤10:=hl.s;have h5:y.z=[]:=hl.z;unfold BI.wt;rw [h1,h2,h5]
 simp
 omega

theorem zf4 {w:World} {base:Nat}:∀(ys:List BI),(∀y∈ys,BOwn w base y)→(∀y∈ys,LitB y.d)→bulk ys≤17*ys.length
 | [],_,_=>Nat.le_refl _
 | y::r,h1,h2=>by
  have a1:=zi3 (h1 y (List.mem_cons_self ..)) (h2 y (List.mem_cons_self ..));have a2:=zf4 r (fun u hu=>h1 u (List.mem_cons_of_mem _ hu)) (fun u hu=>h2 u (List.mem_cons_of_mem _ hu));rw [zc8,List.length_cons];omega

theorem zh3 {w:World} {base:Nat} {ao:Option Addr} {cap:Nat} {l:List BI} {B:BR} (h:BOwns w base ao l.length cap l) (hd:l.map BI.d=zaf B):l.length+bulk l≤1048576:=by
 have h1:=zf4 l h.item (fun y hy=>zc7 hd hy);have h2:l.length≤100:=by
  have h3:=congrArg List.length hd;rw [List.length_map] at h3;rw [h3];exact zdv B
 omega

end Go.Proofs.YtcpdkcdfnpcemaaGreat
