/-
  Packed: NetHelp NetOwn NetOwnA NetUp NetMath NetUsed.
-/
import Derived.Test.YtkcoehmpnkdinaaGreatPNFentHelp
import Derived.Test.YtkcoehmpnkdinaaGreatPNK17
namespace Go.Proofs.YtkcoehmpnkdinaaGreat
set_option maxRecDepth 100000
set_option maxHeartbeats 16000000
open Go.RowKit

theorem zao {w w':World} {b off n cap:Nat} {l:List BV} (h:GRow brF w (some ⟨b,off,none⟩) n cap l) (hb:Below w.heap.size w w') {i:Nat} {x:BV} (hx:l[i]? = some x) :
  w'.cell? ⟨b,off+i*11,none⟩=some (.int .i64 x.B.id)∧w'.cell? ⟨b,off+i*11+1,none⟩=some (.string x.B.name)∧w'.cell? ⟨b,off+i*11+2,none⟩=some (.slice x.a x.n x.c)∧w'.cell? ⟨b,off+i*11+3,none⟩=some (.slice x.fa x.fn x.fc)∧w'.cell? ⟨b,off+i*11+4,none⟩=some (.slice x.ra x.rn x.rc)∧w'.cell? ⟨b,off+i*11+5,none⟩=some (.slice x.oa x.on x.oc)∧w'.cell? ⟨b,off+i*11+6,none⟩=some (.int .i64 x.B.ticks)∧w'.cell? ⟨b,off+i*11+7,none⟩=some (.int .i64 x.B.parse)∧w'.cell? ⟨b,off+i*11+8,none⟩=some (.int .i64 x.B.word)∧w'.cell? ⟨b,off+i*11+9,none⟩=some (.int .i64 x.B.drops)∧w'.cell? ⟨b,off+i*11+10,none⟩=some (.int .i64 x.B.vers):=by
 have hi:i < n:=by
  have:=(List.getElem?_eq_some_iff.1 hx).1
  have:=h.size
  omega
 obtain ⟨y,b',off',hy,e,c⟩:=br_at (h.below hb) i hi;cases e;rw [hx] at hy;cases hy;exact c

theorem zix {w:World} {base g n cap:Nat} {pre post:List BV} {x y:BV} (h:w.ownsRow base 61 11 (.slice (some ⟨g,0,none⟩) n cap) n (brF.all (pre++x::post))) :
  (((((((((((w.setCell ⟨g,pre.length*11,none⟩ (.int .i64 y.B.id)).setCell ⟨g,pre.length*11+1,none⟩ (.string y.B.name)).setCell ⟨g,pre.length*11+2,none⟩ (.slice y.a y.n y.c)).setCell ⟨g,pre.length*11+3,none⟩ (.slice y.fa y.fn y.fc)).setCell ⟨g,pre.length*11+4,none⟩ (.slice y.ra y.rn y.rc)).setCell ⟨g,pre.length*11+5,none⟩ (.slice y.oa y.on y.oc)).setCell ⟨g,pre.length*11+6,none⟩ (.int .i64 y.B.ticks)).setCell ⟨g,pre.length*11+7,none⟩ (.int .i64 y.B.parse)).setCell ⟨g,pre.length*11+8,none⟩ (.int .i64 y.B.word)).setCell ⟨g,pre.length*11+9,none⟩ (.int .i64 y.B.drops)).setCell ⟨g,pre.length*11+10,none⟩ (.int .i64 y.B.vers)).ownsRow base 61 11 (.slice (some ⟨g,0,none⟩) n cap) n (brF.all (pre++y::post)):=by
 have R0:=zK (F:=brF) (x':=⟨x.a,x.n,x.c,x.fa,x.fn,x.fc,x.ra,x.rn,x.rc,x.oa,x.on,x.oc,⟨y.B.id,x.B.name,x.B.ports,x.B.f,x.B.v,x.B.ticks,x.B.parse,x.B.word,x.B.drops,x.B.vers⟩⟩) h 0 (.int .i64 y.B.id) (by decide) rfl;have R1:=zK (F:=brF) (x':=⟨x.a,x.n,x.c,x.fa,x.fn,x.fc,x.ra,x.rn,x.rc,x.oa,x.on,x.oc,⟨y.B.id,y.B.name,x.B.ports,x.B.f,x.B.v,x.B.ticks,x.B.parse,x.B.word,x.B.drops,x.B.vers⟩⟩) R0 1 (.string y.B.name) (by decide) rfl;have R2:=zK (F:=brF) (x':=⟨y.a,y.n,y.c,x.fa,x.fn,x.fc,x.ra,x.rn,x.rc,x.oa,x.on,x.oc,⟨y.B.id,y.B.name,y.B.ports,x.B.f,x.B.v,x.B.ticks,x.B.parse,x.B.word,x.B.drops,x.B.vers⟩⟩) R1 2 (.slice y.a y.n y.c) (by decide) rfl;have R3:=zK (F:=brF) (x':=⟨y.a,y.n,y.c,y.fa,y.fn,y.fc,x.ra,x.rn,x.rc,x.oa,x.on,x.oc,⟨y.B.id,y.B.name,y.B.ports,y.B.f,x.B.v,x.B.ticks,x.B.parse,x.B.word,x.B.drops,x.B.vers⟩⟩) R2 3 (.slice y.fa y.fn y.fc) (by decide) rfl;have R4:=zK (F:=brF) (x':=⟨y.a,y.n,y.c,y.fa,y.fn,y.fc,y.ra,y.rn,y.rc,x.oa,x.on,x.oc,⟨y.B.id,y.B.name,y.B.ports,y.B.f,y.B.v,x.B.ticks,x.B.parse,x.B.word,x.B.drops,x.B.vers⟩⟩) R3 4 (.slice y.ra y.rn y.rc) (by decide) rfl;have R5:=zK (F:=brF) (x':=⟨y.a,y.n,y.c,y.fa,y.fn,y.fc,y.ra,y.rn,y.rc,y.oa,y.on,y.oc,⟨y.B.id,y.B.name,y.B.ports,y.B.f,y.B.v,x.B.ticks,x.B.parse,x.B.word,x.B.drops,x.B.vers⟩⟩) R4 5 (.slice y.oa y.on y.oc) (by decide) rfl;have R6:=zK (F:=brF) (x':=⟨y.a,y.n,y.c,y.fa,y.fn,y.fc,y.ra,y.rn,y.rc,y.oa,y.on,y.oc,⟨y.B.id,y.B.name,y.B.ports,y.B.f,y.B.v,y.B.ticks,x.B.parse,x.B.word,x.B.drops,x.B.vers⟩⟩) R5 6 (.int .i64 y.B.ticks) (by decide) rfl;have R7:=zK (F:=brF) (x':=⟨y.a,y.n,y.c,y.fa,y.fn,y.fc,y.ra,y.rn,y.rc,y.oa,y.on,y.oc,⟨y.B.id,y.B.name,y.B.ports,y.B.f,y.B.v,y.B.ticks,y.B.parse,x.B.word,x.B.drops,x.B.vers⟩⟩) R6 7 (.int .i64 y.B.parse) (by decide) rfl;have R8:=zK (F:=brF) (x':=⟨y.a,y.n,y.c,y.fa,y.fn,y.fc,y.ra,y.rn,y.rc,y.oa,y.on,y.oc,⟨y.B.id,y.B.name,y.B.ports,y.B.f,y.B.v,y.B.ticks,y.B.parse,y.B.word,x.B.drops,x.B.vers⟩⟩) R7 8 (.int .i64 y.B.word) (by decide) rfl;have R9:=zK (F:=brF) (x':=⟨y.a,y.n,y.c,y.fa,y.fn,y.fc,y.ra,y.rn,y.rc,y.oa,y.on,y.oc,⟨y.B.id,y.B.name,y.B.ports,y.B.f,y.B.v,y.B.ticks,y.B.parse,y.B.word,y.B.drops,x.B.vers⟩⟩) R8 9 (.int .i64 y.B.drops) (by decide) rfl;exact zK (F:=brF) (x':=y) R9 10 (.int .i64 y.B.vers) (by decide) rfl

theorem zhg {w:World} {g j:Nat} {y:BV}:w.grownBy (((((((((((w.setCell ⟨g,j,none⟩ (.int .i64 y.B.id)).setCell ⟨g,j+1,none⟩ (.string y.B.name)).setCell ⟨g,j+2,none⟩ (.slice y.a y.n y.c)).setCell ⟨g,j+3,none⟩ (.slice y.fa y.fn y.fc)).setCell ⟨g,j+4,none⟩ (.slice y.ra y.rn y.rc)).setCell ⟨g,j+5,none⟩ (.slice y.oa y.on y.oc)).setCell ⟨g,j+6,none⟩ (.int .i64 y.B.ticks)).setCell ⟨g,j+7,none⟩ (.int .i64 y.B.parse)).setCell ⟨g,j+8,none⟩ (.int .i64 y.B.word)).setCell ⟨g,j+9,none⟩ (.int .i64 y.B.drops)).setCell ⟨g,j+10,none⟩ (.int .i64 y.B.vers)) (some g) :=
 zM (zM (zM (zM (zM (zM (zM (zM (zM (zM (zm _ _) (zm _ _)) (zm _ _)) (zm _ _)) (zm _ _)) (zm _ _)) (zm _ _)) (zm _ _)) (zm _ _)) (zm _ _)) (zm _ _)

theorem zaf {w:World} {base g n cap:Nat} {T:TypeId} {l:List BV} (h:w.ownsRow base T 11 (.slice (some ⟨g,0,none⟩) n cap) n (brF.all l)) {i:Nat} {x:BV} (hx:l[i]? = some x) :
  (w.cell? ⟨g,i*11,none⟩=some (.int .i64 x.B.id)∧w.cell? ⟨g,i*11+1,none⟩=some (.string x.B.name)∧w.cell? ⟨g,i*11+2,none⟩=some (.slice x.a x.n x.c)∧w.cell? ⟨g,i*11+3,none⟩=some (.slice x.fa x.fn x.fc)∧w.cell? ⟨g,i*11+4,none⟩=some (.slice x.ra x.rn x.rc)∧w.cell? ⟨g,i*11+5,none⟩=some (.slice x.oa x.on x.oc)∧w.cell? ⟨g,i*11+6,none⟩=some (.int .i64 x.B.ticks)∧w.cell? ⟨g,i*11+7,none⟩=some (.int .i64 x.B.parse)∧w.cell? ⟨g,i*11+8,none⟩=some (.int .i64 x.B.word)∧w.cell? ⟨g,i*11+9,none⟩=some (.int .i64 x.B.drops)∧w.cell? ⟨g,i*11+10,none⟩=some (.int .i64 x.B.vers)) ∧
  (w.frozen? ⟨g,i*11,none⟩=false∧w.frozen? ⟨g,i*11+1,none⟩=false∧w.frozen? ⟨g,i*11+2,none⟩=false∧w.frozen? ⟨g,i*11+3,none⟩=false∧w.frozen? ⟨g,i*11+4,none⟩=false∧w.frozen? ⟨g,i*11+5,none⟩=false∧w.frozen? ⟨g,i*11+6,none⟩=false∧w.frozen? ⟨g,i*11+7,none⟩=false∧w.frozen? ⟨g,i*11+8,none⟩=false∧w.frozen? ⟨g,i*11+9,none⟩=false∧w.frozen? ⟨g,i*11+10,none⟩=false):=by
 have c0:=zag (F:=brF) h hx (j:=0) (v:=.int .i64 x.B.id) rfl;have c1:=zag (F:=brF) h hx (j:=1) (v:=.string x.B.name) rfl;have c2:=zag (F:=brF) h hx (j:=2) (v:=.slice x.a x.n x.c) rfl;have c3:=zag (F:=brF) h hx (j:=3) (v:=.slice x.fa x.fn x.fc) rfl;have c4:=zag (F:=brF) h hx (j:=4) (v:=.slice x.ra x.rn x.rc) rfl;have c5:=zag (F:=brF) h hx (j:=5) (v:=.slice x.oa x.on x.oc) rfl;have c6:=zag (F:=brF) h hx (j:=6) (v:=.int .i64 x.B.ticks) rfl;have c7:=zag (F:=brF) h hx (j:=7) (v:=.int .i64 x.B.parse) rfl;have c8:=zag (F:=brF) h hx (j:=8) (v:=.int .i64 x.B.word) rfl;have c9:=zag (F:=brF) h hx (j:=9) (v:=.int .i64 x.B.drops) rfl;have c10:=zag (F:=brF) h hx (j:=10) (v:=.int .i64 x.B.vers) rfl;exact ⟨⟨c0.1,c1.1,c2.1,c3.1,c4.1,c5.1,c6.1,c7.1,c8.1,c9.1,c10.1⟩,c0.2,c1.2,c2.2,c3.2,c4.2,c5.2,c6.2,c7.2,c8.2,c9.2,c10.2⟩

abbrev BV.Own (w:World) (base:Nat) (x:BV):Prop:=BrOwn w base x.a x.n x.c x.fa x.fn x.fc x.ra x.rn x.rc x.oa x.on x.oc x.B

theorem BV.Own.other {w w':World} {base:Nat} {x:BV} (h:x.Own w base) {X:Nat} {cs:Array Value} {T:TypeId} (hX:w.heap[X]? = some (.cells cs T)) (h1:(79:Nat)≠T) (h2:(95:Nat)≠T) (h3:(98:Nat)≠T) (h4:(3:Nat)≠T) (hg:w.grownBy w' (some X)):x.Own w' base :=
 ⟨zB h.ports hg (zN h.ports hX h1),zB h.f hg (zN h.f hX h2),⟨zB h.v.rows hg (zN h.v.rows hX h3),zB h.v.own hg (zN h.v.own hX h4),h.v.i64⟩⟩

theorem zi7 (w:World) (base:Nat):BV.zero.Own w base:=⟨World.ownsRow_nil _ _ _ _,World.ownsRow_nil _ _ _ _,⟨World.ownsRow_nil _ _ _ _,World.ownsRow_nil _ _ _ _,(by intro x hx; cases hx)⟩⟩

theorem zcI {w:World} {g:Nat} {T:TypeId} {c0 c1 c2:Value} (h:w.heap[g]? = some (.cells #[c0,c1,c2] T)):w.cell? ⟨g,0,none⟩=some c0∧w.cell? ⟨g,1,none⟩=some c1∧w.cell? ⟨g,2,none⟩=some c2:=by
 simp [World.cell?,h]

structure NV.Same (N M:NV):Prop where
 b:N.bs.map BV.B=M.bs.map BV.B
 l:N.ls=M.ls
 s:N.ss=M.ss

def BV.blks (x:BV):List Nat:=blkL x.a++(blkL x.fa++(blkL x.ra++blkL x.oa))

theorem zb5 {x:BV} {b:Nat}:b∈x.blks↔b∈blkL x.a∨b∈blkL x.fa∨b∈blkL x.ra∨b∈blkL x.oa:=by
 unfold BV.blks; simp [List.mem_append]

theorem BV.Own.blk {w:World} {base:Nat} {x:BV} (h:x.Own w base):∀b∈x.blks,base≤b∧b < w.heap.size:=by
 intro b hb;rcases zb5.1 hb with hb | hb | hb | hb
 ·exact h.ports.lt b (zaq.2 hb)
 ·exact h.f.lt b (zaq.2 hb)
 ·exact h.v.rows.lt b (zaq.2 hb)
 ·exact h.v.own.lt b (zaq.2 hb)

theorem BV.Own.only {bs:List Nat} {w w':World} {base:Nat} {x:BV} (h:x.Own w base) (ho:Only bs w w') (hn:∀b∈x.blks,b∉bs):x.Own w' base :=
 ⟨ho.own h.ports (fun k hk=>hn k (zb5.2 (.inl (zaq.1 hk)))),ho.own h.f (fun k hk=>hn k (zb5.2 (.inr (.inl (zaq.1 hk))))),
  ⟨ho.own h.v.rows (fun k hk=>hn k (zb5.2 (.inr (.inr (.inl (zaq.1 hk)))))),ho.own h.v.own (fun k hk=>hn k (zb5.2 (.inr (.inr (.inr (zaq.1 hk)))))),h.v.i64⟩⟩

theorem zcX (a:Option Addr):(blkL a).Nodup:=by cases a <;> simp [blkL]

theorem BV.Own.nd {w:World} {base:Nat} {x:BV} (h:x.Own w base):x.blks.Nodup:=by
 unfold BV.blks;have d:∀{e e':TypeId} {s s' n n' m m' c c':Nat} {a a':Option Addr} {xs xs':List Value},w.ownsRow base e s (.slice a n c) m xs→w.ownsRow base e' s' (.slice a' n' c') m' xs'→e≠e'→∀b∈blkL a,b∉blkL a':=fun h h' hne b hb hc=>zcg h h' hne (zaq.2 hb) (zaq.2 hc)
 have h12:=d h.ports h.f (by decide);have h13:=d h.ports h.v.rows (by decide);have h14:=d h.ports h.v.own (by decide);have h23:=d h.f h.v.rows (by decide);have h24:=d h.f h.v.own (by decide);have h34:=d h.v.rows h.v.own (by decide);refine List.nodup_append.2 ⟨zcX _,List.nodup_append.2 ⟨zcX _,List.nodup_append.2 ⟨zcX _,zcX _, ?_⟩, ?_⟩, ?_⟩
 ·intro a ha b hb e; subst e; exact h34 a ha hb
 ·intro a ha b hb e; subst e
  rcases List.mem_append.1 hb with hb | hb
  ·exact h23 a ha hb
  ·exact h24 a ha hb
 ·intro a ha b hb e; subst e
  rcases List.mem_append.1 hb with hb | hb
  ·exact h12 a ha hb
  ·rcases List.mem_append.1 hb with hb | hb
   ·exact h13 a ha hb
   ·exact h14 a ha hb

structure BOs (w:World) (base:Nat) (ao:Option Addr) (n cap:Nat) (l:List BV):Prop where
 row:w.ownsRow base 61 11 (.slice ao n cap) n (brF.all l)
 item:∀x∈l,x.Own w base
 apart:(l.flatMap BV.blks).Nodup

def allB (ao:Option Addr) (l:List BV):List Nat:=blkL ao++l.flatMap BV.blks

theorem BOs.grow {w:World} {base:Nat} {ao:Option Addr} {n cap:Nat} {l:List BV} (h:BOs w base ao n cap l):GRow brF w ao n cap l:=zD (F:=brF) h.row
theorem BOs.below {w w':World} {base:Nat} {ao:Option Addr} {n cap:Nat} {l:List BV} (h:BOs w base ao n cap l) (hb:Below w.heap.size w w'):BOs w' base ao n cap l :=
 ⟨ziS h.row hb,fun x hx=>(h.item x hx).below hb,h.apart⟩
theorem BOs.lt {w:World} {base base':Nat} {ao:Option Addr} {n cap:Nat} {l:List BV} (h:BOs w base ao n cap l) (hb:base'≤base):BOs w base' ao n cap l :=
 ⟨zlp h.row hb,fun x hx=>(h.item x hx).lt hb,h.apart⟩
theorem BOs.only {bs:List Nat} {w w':World} {base:Nat} {ao:Option Addr} {n cap:Nat} {l:List BV} (h:BOs w base ao n cap l) (ho:Only bs w w') (hn:∀b∈allB ao l,b∉bs):BOs w' base ao n cap l :=
 ⟨ho.own h.row (fun k hk=>hn k (List.mem_append_left _ (zaq.1 hk))),fun x hx=>(h.item x hx).only ho (fun b hb=>hn b (List.mem_append_right _ (List.mem_flatMap.2 ⟨x,hx,hb⟩))),h.apart⟩
theorem BOs.blk {w:World} {base:Nat} {ao:Option Addr} {n cap:Nat} {l:List BV} (h:BOs w base ao n cap l):∀b∈allB ao l,base≤b∧b < w.heap.size:=by
 intro b hb;rcases List.mem_append.1 hb with hb | hb
 ·exact h.row.lt b (zaq.2 hb)
 ·obtain ⟨x,hx,hb⟩:=List.mem_flatMap.1 hb;exact (h.item x hx).blk b hb

theorem BV.Own.row_apart {w:World} {base base':Nat} {ao:Option Addr} {n cap:Nat} {xs:List Value} (hr:w.ownsRow base' 61 11 (.slice ao n cap) n xs) {x:BV} (h:x.Own w base):∀b∈x.blks,b∉blkL ao:=by
 intro b hb hc;rcases zb5.1 hb with hb | hb | hb | hb
 ·exact zcg h.ports hr (by decide) (zaq.2 hb) (zaq.2 hc)
 ·exact zcg h.f hr (by decide) (zaq.2 hb) (zaq.2 hc)
 ·exact zcg h.v.rows hr (by decide) (zaq.2 hb) (zaq.2 hc)
 ·exact zcg h.v.own hr (by decide) (zaq.2 hb) (zaq.2 hc)

theorem zdR {pre post:List BV} {x:BV} (h:((pre++x::post).flatMap BV.blks).Nodup):∀y,y∈pre∨y∈post→∀b∈y.blks,b∉x.blks:=by
 rw [List.flatMap_append,List.flatMap_cons] at h;obtain ⟨h1,h2,h3⟩:=List.nodup_append.1 h;obtain ⟨h4,h5,h6⟩:=List.nodup_append.1 h2;intro y hy b hb hx;rcases hy with hy | hy
 ·exact h3 b (List.mem_flatMap.2 ⟨y,hy,hb⟩) b (List.mem_append_left _ hx) rfl
 ·exact h6 b hx b (List.mem_flatMap.2 ⟨y,hy,hb⟩) rfl

theorem zf2 {pre post:List BV} {x y:BV} (h:y∈pre∨y∈post):y∈pre++x::post:=by
 rcases h with h | h
 ·exact List.mem_append_left _ h
 ·exact List.mem_append_right _ (List.mem_cons_of_mem _ h)

theorem BOs.turn {bs:List Nat} {w w':World} {base:Nat} {ao:Option Addr} {n cap:Nat} {pre post:List BV} {x x':BV} (h:BOs w base ao n cap (pre++x::post)) (hb:∀y,y∈pre∨y∈post→∀b∈y.blks,b∉x'.blks) (ho:Only bs w w') (hs:∀b∈bs,b∈x.blks∨b∈blkL ao)
  (hr:w'.ownsRow base 61 11 (.slice ao n cap) n (brF.all (pre++x'::post))) (hx:x'.Own w' base):BOs w' base ao n cap (pre++x'::post) where
 row:=hr
 item:=by
  intro y hy;have hm:=zdR h.apart;have keep:(y∈pre∨y∈post)→y.Own w' base:=fun hy=>(h.item y (zf2 hy)).only ho (fun b hb hbs=>by
   rcases hs b hbs with h1 | h1
   ·exact hm y hy b hb h1
   ·exact BV.Own.row_apart h.row (h.item y (zf2 hy)) b hb h1)
  rcases List.mem_append.1 hy with hy | hy
  ·exact keep (.inl hy)
  ·rcases List.mem_cons.1 hy with rfl | hy
   ·exact hx
   ·exact keep (.inr hy)
 apart:=by
  have ha:=h.apart;rw [List.flatMap_append,List.flatMap_cons] at ha ⊢;obtain ⟨h1,h2,h3⟩:=List.nodup_append.1 ha;obtain ⟨-,h5,-⟩:=List.nodup_append.1 h2;refine List.nodup_append.2 ⟨h1,List.nodup_append.2 ⟨hx.nd,h5, ?_⟩, ?_⟩
  ·intro a ha b hb' e;subst e;obtain ⟨z,hz,hb'⟩:=List.mem_flatMap.1 hb';exact hb z (.inr hz) a hb' ha
  ·intro a ha b hb' e;subst e;rcases List.mem_append.1 hb' with hb' | hb'
   ·obtain ⟨z,hz,ha⟩:=List.mem_flatMap.1 ha;exact hb z (.inl hz) a ha hb'
   ·exact h3 a ha a (List.mem_append_right _ hb') rfl

theorem BOs.put {w w1 w':World} {base g n cap:Nat} {pre post:List BV} {x y:BV} (h:BOs w base (some ⟨g,0,none⟩) n cap (pre++x::post)) (hb:Below w.heap.size w w1) (hy:y.Own w1 w.heap.size) (hbs:base≤w.heap.size) (hg:w1.grownBy w' (some g))
  (hr:w'.ownsRow base 61 11 (.slice (some ⟨g,0,none⟩) n cap) n (brF.all (pre++y::post))):BOs w' base (some ⟨g,0,none⟩) n cap (pre++y::post):=by
 have O:Only [g] w1 w':=by have:=Only.of_grown (ao:=some ⟨g,0,none⟩) (n:=n) (c:=cap) hg; simpa [blkL] using this
 have hgl:g < w.heap.size:=(h.row.lt g rfl).2;refine (h.below hb).turn (bs:=[g]) ?_ O (fun b hb'=>.inr (by simpa [blkL] using hb')) hr ((hy.only O (fun b hb' hc=>by have:=(hy.blk b hb').1; simp at hc; omega)).lt hbs);intro z hz b hb1 hb2;have h1:=((h.item z (zf2 hz)).blk b hb1).2;have h2:=(hy.blk b hb2).1;omega

theorem BOs.push {w w1 w':World} {base:Nat} {ao ao':Option Addr} {n cap cap':Nat} {l:List BV} {y:BV} (h:BOs w base ao n cap l) (hb:Below w.heap.size w w1) (hy:y.Own w1 w.heap.size) (hbs:base≤w.heap.size) (hg:w1.grownBy w' (Value.slice ao n cap).ownBlock)
  (hr:w'.ownsRow base 61 11 (.slice ao' (n+1) cap') (n+1) (brF.all (l++[y]))):BOs w' base ao' (n+1) cap' (l++[y]):=by
 have O:=Only.of_grown hg;have hk:=h.below hb;have hlt:=h.row.lt;refine ⟨hr, ?_, ?_⟩
 ·intro z hz;rcases List.mem_append.1 hz with hz | hz
  ·exact (hk.item z hz).only O (BV.Own.row_apart hk.row (hk.item z hz))
  ·rw [List.mem_singleton.1 hz];exact (hy.only O (fun b hb' hc=>by have h1:=(hy.blk b hb').1; have h2:=(hlt b (zaq.2 hc)).2; omega)).lt hbs
 ·rw [List.flatMap_append];refine List.nodup_append.2 ⟨h.apart,by simpa using hy.nd, ?_⟩;intro a ha b hb' e;subst e;obtain ⟨z,hz,ha⟩:=List.mem_flatMap.1 ha;have h1:=((h.item z hz).blk a ha).2;have h2:=(hy.blk a (by simpa using hb')).1;omega

theorem zhe (w:World) (base:Nat):BOs w base none 0 0 []:=⟨World.ownsRow_nil _ _ _ _,(by intro x hx; cases hx),List.nodup_nil⟩

structure zbC (w:World) (base:Nat) (M:NV):Prop where
 b:BOs w base M.ba M.bn M.bc M.bs
 l:w.ownsRow base 44 4 (.slice M.la M.ln M.lc) M.ln (linkF.all M.ls)
 s:M.sa=none∧M.sn=0∧M.sc=0∧M.ss=[]

theorem zbC.row {w:World} {base:Nat} {M:NV} (h:zbC w base M):zas w M :=
 ⟨h.b.grow,fun x hx=>(h.b.item x hx).row,zD (F:=linkF) h.l,by rw [h.s.1,h.s.2.1,h.s.2.2.1,h.s.2.2.2]; exact zc2 _ _⟩
theorem zbC.below {w w':World} {base:Nat} {M:NV} (h:zbC w base M) (hb:Below w.heap.size w w'):zbC w' base M:=⟨h.b.below hb,zl h.l hb,h.s⟩
theorem zbC.lt {w:World} {base base':Nat} {M:NV} (h:zbC w base M) (hb:base'≤base):zbC w base' M:=⟨h.b.lt hb,zL h.l hb,h.s⟩
theorem zbC.apart {w w':World} {base:Nat} {M:NV} (h:zbC w base M) {g:Nat} (hg:w.grownBy w' (some g)) (hlt:g < base):zbC w' base M:=by
 have O:Only [g] w w':=⟨hg.os,hg.tape,hg.output,hg.size,fun k hk hn=>hg.block k hk (by intro e; cases e; exact hn (by simp))⟩;exact ⟨h.b.only O (fun b hb hc=>by have:=(h.b.blk b hb).1; simp at hc; omega),O.own h.l (fun k hk hc=>by have:=(h.l.lt k hk).1; simp at hc; omega),h.s⟩

structure NOwn (w:World) (base:Nat) (M:NV):Prop where
 b:BOs w base M.ba M.bn M.bc M.bs
 l:w.ownsRow base 44 4 (.slice M.la M.ln M.lc) M.ln (linkF.all M.ls)
 s:w.ownsRow base 74 7 (.slice M.sa M.sn M.sc) M.sn (sayF.all M.ss)

theorem zbC.all {w:World} {base:Nat} {M:NV} (h:zbC w base M):NOwn w base M :=
 ⟨h.b,h.l,by rw [h.s.1,h.s.2.1,h.s.2.2.1,h.s.2.2.2]; exact World.ownsRow_nil _ _ _ _⟩
theorem NOwn.row {w:World} {base:Nat} {M:NV} (h:NOwn w base M):zas w M :=
 ⟨h.b.grow,fun x hx=>(h.b.item x hx).row,zD (F:=linkF) h.l,zD (F:=sayF) h.s⟩
theorem NOwn.below {w w':World} {base:Nat} {M:NV} (h:NOwn w base M) (hb:Below w.heap.size w w'):NOwn w' base M:=⟨h.b.below hb,zl h.l hb,zl h.s hb⟩
theorem NOwn.lt {w:World} {base base':Nat} {M:NV} (h:NOwn w base M) (hb:base'≤base):NOwn w base' M:=⟨h.b.lt hb,zL h.l hb,zL h.s hb⟩

def zak (bs:List BR) (b p:Int):Option PT:=if 0≤b∧0≤p then (bs[b.toNat]?).bind (fun B=>B.ports[p.toNat]?) else none
def upAt (bs:List BR) (b p:Int):Bool:=match zak bs b p with
 | some x=>x.up
 | none=>false
def zaw (bs:List BR) (ls:List LK) (k:Int):Bool:=if 0≤k then (match ls[k.toNat]? with
 | some x=>upAt bs x.a x.p && upAt bs x.b x.q
 | none=>false) else false

theorem zd7 {N:NV} {k:Nat} {x:BV} (h:N.bs[k]? = some x):N.brs[k]? = some x.B:=by unfold NV.brs; rw [List.getElem?_map,h]; rfl
theorem zdS (N:NV):N.brs.length=N.bs.length:=by unfold NV.brs; simp

theorem zhC {bs:List BR} {b p:Int} (h:(decide (0≤b) && decide (b≤(bs.length:Int) - 1))=false):zak bs b p=none:=by
 unfold zak
 split
 ·rename_i hc
  rw [List.getElem?_eq_none (by simp at h; omega)]
  rfl
 ·rfl
theorem zjR {bs:List BR} {k:Nat} {B:BR} (h:bs[k]? = some B) (p:Int):zak bs (k:Int) p=if 0≤p then B.ports[p.toNat]? else none:=by
 unfold zak;by_cases hp:0≤p
 ·rw [if_pos ⟨by omega,hp⟩,if_pos hp,Int.toNat_natCast,h]; rfl
 ·rw [if_neg (fun hc=>hp hc.2),if_neg hp]
theorem zf8 {bs:List BR} {k:Nat} {B:BR} (h:bs[k]? = some B) {p:Int} (hp:(decide (0≤p) && decide (p≤(B.ports.length:Int) - 1))=false):zak bs (k:Int) p=none:=by
 rw [zjR h]
 split
 ·exact List.getElem?_eq_none (by simp at hp; omega)
 ·rfl
theorem zhB {bs:List BR} {k:Nat} {B:BR} (h:bs[k]? = some B) {j:Nat} {y:PT} (hy:B.ports[j]? = some y):zak bs (k:Int) (j:Int)=some y:=by
 rw [zjR h,if_pos (by omega),Int.toNat_natCast,hy]

theorem zfL (N:NV) (b p:Int) (w:World) (h:zas w N) :
  Calls Tryz.prog 43 #[.agg #[.slice N.ba N.bn N.bc,.slice N.la N.ln N.lc,.slice N.sa N.sn N.sc],.int .i64 b,.int .i64 p] w fun e w'=>e=.returned (.bool (upAt N.brs b p))∧Below w.heap.size w w':=by
 have hle:=Nat.le_trans h.b.le h.b.top;unfold maxLen at hle;have hsz:=h.b.size;generalize hG:upAt N.brs b p=U;have HG:=hide hG;clear hG;generalize hw1:w.alloc (Obj.cells #[.slice N.ba N.bn N.bc,.slice N.la N.ln N.lc,.slice N.sa N.sn N.sc] 31)=w1;have b01:=zb hw1;have k1:=zk hw1;obtain ⟨x0,x1,x2⟩:=zd k1;cases hA:(decide (0≤b) && decide (b≤(N.bn:Int) - 1))
 ·have HF:Hid (U=false):=hide (by rw [← HG.out]; unfold upAt; rw [zhC (by rw [zdS,hsz]; exact hA)]);go_enter Tryz.func43,Tryz.ntmps43;(go_wp2_with fail);refine (zh b 0 ((N.bn:Int) - 1) _).mono ?_;rintro e w2 ⟨rfl,ew⟩;obtain rfl:=ew.symm;rw [hA];clear hA;go_wp2;go_ret;exact ⟨by rw [HF.out]; rfl,b01⟩
 ·obtain ⟨k,rfl⟩:∃k:Nat,b=(k:Int):=⟨b.toNat,by simp at hA; omega⟩;have hk:k < N.bn:=by simp at hA; omega
  obtain ⟨x,bb,off,hx,hba,c0,c1,c2,c3,c4,c5,c6,c7,c8,c9,c10⟩:=br_at (h.b.below b01) k hk;have hm:=List.mem_of_getElem? hx;have hr:=(h.item x hm).below b01;have hpl:=Nat.le_trans hr.ports.le hr.ports.top;unfold maxLen at hpl;have i1:(0:Int)≤(k:Int):=by omega
  have i2:(k:Int) < (N.bn:Int):=by omega
  have HX:=hide (zd7 hx);clear hx hm;rw [hba] at x0;cases hB:(decide (0≤p) && decide (p≤(x.n:Int) - 1))
  ·have HF:Hid (U=false):=hide (by rw [← HG.out]; unfold upAt; rw [zf8 HX.out (by rw [hr.ports.size]; exact hB)]);clear hba;go_enter Tryz.func43,Tryz.ntmps43;(go_wp2_with fail);refine (zh (k:Int) 0 ((N.bn:Int) - 1) _).mono ?_;rintro e w2 ⟨rfl,ew⟩;obtain rfl:=ew.symm;rw [hA];clear hA;(go_wp2_with fail);refine (zh p 0 ((x.n:Int) - 1) _).mono ?_;rintro e w2 ⟨rfl,ew⟩;obtain rfl:=ew.symm;rw [hB];clear hB;go_wp2;go_ret;exact ⟨by rw [HF.out]; rfl,b01⟩
  ·obtain ⟨j,rfl⟩:∃j:Nat,p=(j:Int):=⟨p.toNat,by simp at hB; omega⟩;have hj:j < x.n:=by simp at hB; omega
   obtain ⟨y,pb,po,hy,hpa,d0,-⟩:=pt_at hr.ports j hj;have HF:Hid (U=y.up):=hide (by rw [← HG.out]; unfold upAt; rw [zhB HX.out hy]);have i3:(0:Int)≤(j:Int):=by omega
   have i4:(j:Int) < (x.n:Int):=by omega
   rw [hpa] at c2;clear hba hpa;go_enter Tryz.func43,Tryz.ntmps43;(go_wp2_with fail);refine (zh (k:Int) 0 ((N.bn:Int) - 1) _).mono ?_;rintro e w2 ⟨rfl,ew⟩;obtain rfl:=ew.symm;rw [hA];clear hA;(go_wp2_with fail);refine (zh (j:Int) 0 ((x.n:Int) - 1) _).mono ?_;rintro e w2 ⟨rfl,ew⟩;obtain rfl:=ew.symm;rw [hB];clear hB;go_wp2;go_ret;exact ⟨by rw [HF.out]; rfl,b01⟩

theorem za8 (N:NV) (k:Int) (w:World) (h:zas w N) :
  Calls Tryz.prog 17 #[.agg #[.slice N.ba N.bn N.bc,.slice N.la N.ln N.lc,.slice N.sa N.sn N.sc],.int .i64 k] w fun e w'=>e=.returned (.bool (zaw N.brs N.ls k))∧Below w.heap.size w w':=by
 have hle:=Nat.le_trans h.l.le h.l.top;unfold maxLen at hle;have hsz:=h.l.size;generalize hG:zaw N.brs N.ls k=U;have HG:=hide hG;clear hG;generalize hw1:w.alloc (Obj.cells #[.slice N.ba N.bn N.bc,.slice N.la N.ln N.lc,.slice N.sa N.sn N.sc] 31)=w1;have b01:=zb hw1;have k1:=zk hw1;obtain ⟨x0,x1,x2⟩:=zd k1;cases hA:(decide (0≤k) && decide (k≤(N.ln:Int) - 1))
 ·have HF:Hid (U=false):=hide (by
   rw [← HG.out];unfold zaw
   split
   ·rw [List.getElem?_eq_none (by simp at hA; omega)]
   ·rfl)
  go_enter Tryz.func17,Tryz.ntmps17;(go_wp2_with fail);refine (zh k 0 ((N.ln:Int) - 1) _).mono ?_;rintro e w2 ⟨rfl,ew⟩;obtain rfl:=ew.symm;rw [hA];clear hA;go_wp2;go_ret;exact ⟨by rw [HF.out]; rfl,b01⟩
 ·obtain ⟨j,rfl⟩:∃j:Nat,k=(j:Int):=⟨k.toNat,by simp at hA; omega⟩;have hj:j < N.ln:=by simp at hA; omega
  obtain ⟨x,lb,off,hx,hla,a0,a1,a2,a3⟩:=zaX (h.l.below b01) j hj;have HF:Hid (U=(upAt N.brs x.a x.p && upAt N.brs x.b x.q)):=hide (by rw [← HG.out]; unfold zaw; rw [if_pos (by omega),Int.toNat_natCast,hx]);have i1:(0:Int)≤(j:Int):=by omega
  have i2:(j:Int) < (N.ln:Int):=by omega
  have y1:=x1;rw [hla] at y1;clear hx;have HLA:=hide hla;clear hla x1;go_enter Tryz.func17,Tryz.ntmps17;(go_wp2_with fail);refine (zh (j:Int) 0 ((N.ln:Int) - 1) _).mono ?_;rintro e w2 ⟨rfl,ew⟩;obtain rfl:=ew.symm;rw [hA];clear hA;generalize hwa:w1.alloc (Obj.cells #[.int .i64 x.a,.int .i64 x.p,.int .i64 x.b,.int .i64 x.q] 44)=wa;have ba:=zb hwa;have ka:=zk hwa;have kNe:=za k1 ba;have b0a:=zc b01 ba;obtain ⟨z0,z1,z2⟩:=zd kNe;obtain ⟨u0,u1,u2,u3⟩:=zO ka;(go_wp2_with fail);refine (zfL N x.a x.p _ (h.below b0a)).mono ?_;rintro e w3 ⟨rfl,hb3⟩;have kNe:=za kNe hb3;have ka:=za ka hb3;have b03:=zc b0a hb3;clear z0 z1 z2 u0 u1 u2 u3 a0 a1 a2 a3 x0 x2 y1 hwa hb3 ba;generalize hR:w1.heap.size=R at *;obtain ⟨z0,z1,z2⟩:=zd kNe;obtain ⟨u0,u1,u2,u3⟩:=zO ka;cases hU:upAt N.brs x.a x.p
  ·have HF:Hid (U=false):=hide (by rw [HF.out,hU]; rfl);go_wp2;go_ret;exact ⟨by rw [HF.out]; rfl,b03⟩
  ·have HF:Hid (U=upAt N.brs x.b x.q):=hide (by rw [HF.out,hU]; rfl);(go_wp2_with fail);refine (zfL N x.b x.q _ (h.below b03)).mono ?_;rintro e w4 ⟨rfl,hb4⟩;have HB:=hide (zc b03 hb4);clear z0 z1 z2 u0 u1 u2 u3 hb4;go_wp2;go_ret;exact ⟨by rw [HF.out]; rfl,HB.out⟩

theorem zgA (a:Option Addr) (n c:Nat) (port:Int) (w:World) (hn:n≤9223372036854775807) :
  Calls Tryz.prog 68 #[.slice a n c,.int .i64 port] w fun e w'=>e=.returned (.bool (decide (0≤port) && decide (port≤(n:Int) - 1)))∧w'=w:=by
 go_enter Tryz.func68,Tryz.ntmps68;go_wp2_with fail
 refine (zF port 0 ((n:Int) - 1) _).mono ?_;rintro r w3 ⟨rfl,ew⟩;obtain rfl:=ew.symm;go_wp2;go_ret;exact ⟨rfl,rfl⟩

theorem zhf (N:NV) (b:Int) (w:World) (hle:N.bn≤9223372036854775807) (hA:(decide (0≤b) && decide (b≤(N.bn:Int) - 1))=false) :
  Calls Tryz.prog 25 #[.agg #[.slice N.ba N.bn N.bc,.slice N.la N.ln N.lc,.slice N.sa N.sn N.sc],.int .i64 b] w fun e w'=>e=.returned (.pointer none)∧Below w.heap.size w w':=by
 generalize hw1:w.alloc (Obj.cells #[.slice N.ba N.bn N.bc,.slice N.la N.ln N.lc,.slice N.sa N.sn N.sc] 31)=w1;have b01:=zb hw1;have k1:=zk hw1;obtain ⟨x0,x1,x2⟩:=zd k1;go_enter Tryz.func25,Tryz.ntmps25;go_wp2_with fail
 refine (zF b 0 ((N.bn:Int) - 1) _).mono ?_;rintro e w2 ⟨rfl,ew⟩;obtain rfl:=ew.symm;rw [hA];clear hA;go_wp2;go_ret;exact ⟨rfl,b01⟩

theorem zd6 (N:NV) (k:Nat) (g off:Nat) (w:World) (hle:N.bn≤9223372036854775807) (hk:k < N.bn) (hba:N.ba=some ⟨g,off,none⟩) :
  Calls Tryz.prog 25 #[.agg #[.slice N.ba N.bn N.bc,.slice N.la N.ln N.lc,.slice N.sa N.sn N.sc],.int .i64 (k:Int)] w fun e w'=>e=.returned (.pointer (some ⟨g,off+k*11,none⟩))∧Below w.heap.size w w':=by
 generalize hw1:w.alloc (Obj.cells #[.slice N.ba N.bn N.bc,.slice N.la N.ln N.lc,.slice N.sa N.sn N.sc] 31)=w1;have b01:=zb hw1;have k1:=zk hw1;obtain ⟨x0,x1,x2⟩:=zd k1;have hA:(decide (0≤(k:Int)) && decide ((k:Int)≤(N.bn:Int) - 1))=true:=by simp; omega
 have i1:(0:Int)≤(k:Int):=by omega
 have i2:(k:Int) < (N.bn:Int):=by omega
 rw [hba] at x0;clear hba;go_enter Tryz.func25,Tryz.ntmps25;go_wp2_with fail
 refine (zF (k:Int) 0 ((N.bn:Int) - 1) _).mono ?_;rintro e w2 ⟨rfl,ew⟩;obtain rfl:=ew.symm;rw [hA];clear hA;go_wp2;go_ret;exact ⟨rfl,b01⟩

def PtAt (w:World) (v:Option Addr) (o:Option PT):Prop:=match o with
 | none=>v=none
 | some y=>∃g j:Nat,v=some ⟨g,j,none⟩∧w.cell? ⟨g,j,none⟩=some (.bool y.up)
def PtAll (w:World) (v:Option Addr) (o:Option PT):Prop:=match o with
 | none=>v=none
 | some y=>∃g j:Nat,v=some ⟨g,j,none⟩∧w.cell? ⟨g,j,none⟩=some (.bool y.up)∧w.cell? ⟨g,j+1,none⟩=some (.int .i64 y.k)∧w.cell? ⟨g,j+2,none⟩=some (.bool y.has)∧w.cell? ⟨g,j+3,none⟩=some (.int .i64 y.v.r)∧w.cell? ⟨g,j+4,none⟩=some (.int .i64 y.v.c)∧w.cell? ⟨g,j+5,none⟩=some (.int .i64 y.v.h)∧w.cell? ⟨g,j+6,none⟩=some (.int .i64 y.v.b)∧w.cell? ⟨g,j+7,none⟩=some (.int .i64 y.v.p)
theorem PtAll.upAt {w:World} {v:Option Addr} {o:Option PT} (h:PtAll w v o):PtAt w v o:=by
 cases o with
 | none=>exact h
 | some y =>
  obtain ⟨g,j,e,c,-⟩:=h;exact ⟨g,j,e,c⟩

theorem ziT (N:NV) (b p:Int) (w:World) (h:zas w N) :
  Calls Tryz.prog 42 #[.agg #[.slice N.ba N.bn N.bc,.slice N.la N.ln N.lc,.slice N.sa N.sn N.sc],.agg #[.int .i64 b,.int .i64 p]] w fun e w'=>∃v,e=.returned (.pointer v)∧PtAll w v (zak N.brs b p)∧Below w.heap.size w w':=by
 have hle:=Nat.le_trans h.b.le h.b.top;unfold maxLen at hle;have hsz:=h.b.size;generalize hw1:w.alloc (Obj.cells #[.slice N.ba N.bn N.bc,.slice N.la N.ln N.lc,.slice N.sa N.sn N.sc] 31)=w1;generalize hw2:w1.alloc (Obj.cells #[.int .i64 b,.int .i64 p] 67)=w2;have b01:=zb hw1;have b12:=zb hw2;have kNe:=za (zk hw1) b12;have kE:=zk hw2;have b02:=zc b01 b12;obtain ⟨x0,x1,x2⟩:=zd kNe;obtain ⟨e0,e1⟩:=zJ kE;cases hA:(decide (0≤b) && decide (b≤(N.bn:Int) - 1))
 ·have HF:=hide (zhC (bs:=N.brs) (b:=b) (p:=p) (by rw [zdS,hsz]; exact hA));go_enter Tryz.func42,Tryz.ntmps42;(go_wp2_with fail);refine (zhf N b _ hle hA).mono ?_;rintro e w3 ⟨rfl,hb3⟩;have b03:=zc b02 hb3;clear x0 x1 x2 e0 e1 hb3;have vv:Below w3.heap.size w3 w3.drew:=zr (Below.refl _ _);(go_wp2_with fail);refine wp_region_held_drew (S:=(fun _=>True)) (by kernel_rfl) (trivial) (fun hHeld => ?_);refine kK 0 ?_;refine kK 1 ?_;refine kK 2 ?_;refine kN 3 ?_;refine kN 4 ?_;refine kN 5 ?_;refine kN 6 ?_;refine kN 7 ?_;refine kN 8 ?_;refine kN 9 ?_;refine kN 10 ?_;refine kK 11 ?_;refine wpAnyH_done (by kernel_rfl) ?_ _;have HB:=hide (zc b03 vv);clear hHeld vv;go_wp2;go_ret;exact ⟨none,rfl,by rw [HF.out]; rfl,HB.out⟩
 ·obtain ⟨k,rfl⟩:∃k:Nat,b=(k:Int):=⟨b.toNat,by simp at hA; omega⟩;have hk:k < N.bn:=by simp at hA; omega
  obtain ⟨x,bb,off,hx,hba,cc0,cc1,cc2,-⟩:=br_at h.b k hk;have hr:=h.item x (List.mem_of_getElem? hx);have hpl:=Nat.le_trans hr.ports.le hr.ports.top;unfold maxLen at hpl;have HX:=hide (zd7 hx);have HBA:=hide hba;clear hx hA hba;go_enter Tryz.func42,Tryz.ntmps42;(go_wp2_with fail);refine (zd6 N k bb off _ hle hk HBA.out).mono ?_;rintro e w3 ⟨rfl,hb3⟩;have b03:=zc b02 hb3;have kE:=za kE hb3;have c2:=(b03.cell (zo cc2)).trans cc2;clear x0 x1 x2 e0 e1 hb3 cc0 cc1 cc2;obtain ⟨e0,e1⟩:=zJ kE;generalize hR:w1.heap.size=R at *;have vv:Below w3.heap.size w3 w3.drew:=zr (Below.refl _ _);(go_wp2_with fail);cases hB:(decide (0≤p) && decide (p≤(x.n:Int) - 1))
  ·have HF:=hide (zf8 HX.out (by rw [hr.ports.size]; exact hB));refine wp_region_held_drew (S:=(fun W=>zcc W bb (off+k*11+2) (.slice x.a x.n x.c)∧zcc W R 1 (.int .i64 p))) (by kernel_rfl) (⟨(vv.cell (zo c2)).trans c2,(zJ (za kE vv)).2⟩) (fun hHeld => ?_);refine kK 0 ?_;refine kK 1 ?_;refine kK 2 ?_;refine kK 3 ?_;refine kK 4 ?_;refine kK 5 ?_;refine kK 6 ?_;refine kK 7 ?_;refine kK 8 ?_;refine kR 9 fun K hK => ?_
   go_simp;refine (zgA x.a x.n x.c p _ hpl).mono ?_;rintro r wz ⟨rfl,ew⟩;obtain rfl:=ew.symm;rw [hB];(go_wp2_with fail);refine kO hK (⟨(vv.cell (zo c2)).trans c2,(zJ (za kE vv)).2⟩) fun hHeld => ?_
   clear hK K;refine kK 10 ?_;refine kK 11 ?_;refine wpAnyH_done (by kernel_rfl) ?_ _;have HB:=hide (zc b03 vv);clear hHeld vv c2 kE;go_wp2;go_ret;exact ⟨none,rfl,by rw [HF.out]; rfl,HB.out⟩
  ·obtain ⟨j,rfl⟩:∃j:Nat,p=(j:Int):=⟨p.toNat,by simp at hB; omega⟩;have hj:j < x.n:=by simp at hB; omega
   obtain ⟨y,pb,po,hy,hpa,d0⟩:=pt_at hr.ports j hj;have HF:=hide (zhB HX.out hy);have i3:(0:Int)≤(j:Int):=by omega
   have i4:(j:Int) < (x.n:Int):=by omega
   have HD:=hide d0;rw [hpa] at c2;clear hpa d0;refine wp_region_held_drew (S:=(fun W=>zcc W bb (off+k*11+2) (.slice (some ⟨pb,po,none⟩) x.n x.c)∧zcc W R 1 (.int .i64 (j:Int)))) (by kernel_rfl) (⟨(vv.cell (zo c2)).trans c2,(zJ (za kE vv)).2⟩) (fun hHeld => ?_);refine kK 0 ?_;refine kK 1 ?_;refine kK 2 ?_;refine kK 3 ?_;refine kK 4 ?_;refine kK 5 ?_;refine kK 6 ?_;refine kK 7 ?_;refine kK 8 ?_;refine kR 9 fun K hK => ?_
   go_simp;refine (zgA (some ⟨pb,po,none⟩) x.n x.c (j:Int) _ hpl).mono ?_;rintro r wz ⟨rfl,ew⟩;obtain rfl:=ew.symm;rw [hB];(go_wp2_with fail);refine kO hK (⟨(vv.cell (zo c2)).trans c2,(zJ (za kE vv)).2⟩) fun hHeld => ?_
   clear hK K;refine kK 10 ?_;refine kK 11 ?_;refine wpAnyH_done (by kernel_rfl) ?_ _;have HB:=hide (zc b03 (zr vv));have c2:=(vv.cell (zo c2)).trans c2;have e1:=(zJ (za kE vv)).2;clear hHeld vv kE hB;(go_wp2_with fail)
   go_region
   go_wp2;go_ret;exact ⟨_,rfl,by rw [HF.out]; exact ⟨_,_,rfl,HD.out⟩,HB.out⟩

theorem zc5 (N:NV) (b p:Int) (w:World) (h:zas w N) :
  Calls Tryz.prog 42 #[.agg #[.slice N.ba N.bn N.bc,.slice N.la N.ln N.lc,.slice N.sa N.sn N.sc],.agg #[.int .i64 b,.int .i64 p]] w fun e w'=>∃v,e=.returned (.pointer v)∧PtAt w v (zak N.brs b p)∧Below w.heap.size w w':=by
 refine (ziT N b p w h).mono ?_;rintro e w1 ⟨v,rfl,hv,hb⟩;exact ⟨v,rfl,hv.upAt,hb⟩

def endsL (ls:List LK):List (Int × Int):=ls.flatMap fun x=>[(x.a,x.p),(x.b,x.q)]
def usedL (ls:List LK) (b p:Int):Nat:=(endsL ls).count (b,p)

def zhS (bs:List BR):Prop:=∀(i j:Nat) (x y:BR),i < j→bs[i]? = some x→bs[j]? = some y→x.id≠y.id
def zaD (bs:List BR):Prop:=(∀x∈bs,zz x=true)∧zhS bs∧1≤bs.length∧bs.length≤6
def zen (ls:List LK) (i:Nat) (B:BR):Prop:=∀(p:Nat) (x:PT),B.ports[p]? = some x→x.has=true→usedL ls (i:Int) (p:Int)≠0
def Quiet (bs:List BR) (ls:List LK):Prop:=∀(i:Nat) (B:BR),bs[i]? = some B→zen ls i B
def zce (bs:List BR) (x:LK):Prop:=x.a≠x.b∧∃u v,zak bs x.a x.p=some u∧zak bs x.b x.q=some v∧u.up=v.up
def zgm (bs:List BR) (ls:List LK) (x:LK):Prop:=zce bs x∧usedL ls x.a x.p=1∧usedL ls x.b x.q=1
def zaW (bs:List BR) (ls:List LK):Prop:=ls.length≤9∧∀x∈ls,zgm bs ls x
def SayOk (ls:List LK) (s:SY):Prop:=(decide (0≤s.l) && decide (s.l≤(ls.length:Int) - 1))=true∧okVd s.v=true
def zcH (ls:List LK) (ss:List SY):Prop:=ss.length≤40∧∀s∈ss,SayOk ls s
def NetOk (bs:List BR) (ls:List LK) (ss:List SY):Prop:=zaD bs∧zaW bs ls∧Quiet bs ls∧zcH ls ss

theorem zek (l l':List LK):endsL (l++l')=endsL l++endsL l':=by simp [endsL]
theorem zdx (x:LK) (l:List LK):endsL (x::l)=(x.a,x.p)::(x.b,x.q)::endsL l:=by simp [endsL]
theorem zdy {ls:List LK} {x:LK} (h:x∈ls):(x.a,x.p)∈endsL ls∧(x.b,x.q)∈endsL ls :=
 ⟨List.mem_flatMap.2 ⟨x,h,by simp⟩,List.mem_flatMap.2 ⟨x,h,by simp⟩⟩
theorem zhh (ls:List LK):(endsL ls).length=2*ls.length:=by
 induction ls with
 | nil=>rfl
 | cons x l ih=>rw [zdx]; simp only [List.length_cons,ih]; omega

def hit (b p a q:Int):Nat:=if a=b∧q=p then 1 else 0

theorem zbq {ls:List LK} {k:Nat} {x:LK} (h:ls[k]? = some x) (b p:Int):usedL (ls.take (k+1)) b p=usedL (ls.take k) b p+hit b p x.a x.p+hit b p x.b x.q:=by
 have e:ls.take (k+1)=ls.take k++[x]:=by rw [List.take_add_one,h]; rfl
 unfold usedL hit;rw [e,zek,List.count_append,zdx];simp only [List.count_cons,endsL,List.flatMap_nil,List.count_nil,beq_iff_eq,Prod.mk.injEq];omega

theorem zj5 (ls:List LK) (b p:Int):usedL ls b p≤2*ls.length:=by
 unfold usedL;rw [← zhh];exact List.count_le_length

theorem zjl (ls:List LK):(endsL ls).Nodup↔∀x∈ls,usedL ls x.a x.p=1∧usedL ls x.b x.q=1:=by
 constructor
 ·intro h x hx;obtain ⟨h1,h2⟩:=zdy hx;have e:=List.nodup_iff_count.1 h;have p1:=List.count_pos_iff.2 h1;have p2:=List.count_pos_iff.2 h2;have e1:=e (x.a,x.p);have e2:=e (x.b,x.q);unfold usedL;exact ⟨by omega,by omega⟩
 ·intro h;refine List.nodup_iff_count.2 fun e => ?_
  by_cases he:e∈endsL ls
  ·obtain ⟨x,hx,hm⟩:=List.mem_flatMap.1 he
   simp at hm
   have h1:=h x hx;unfold usedL at h1;rcases hm with rfl | rfl
   ·omega
   ·omega
  ·rw [List.count_eq_zero_of_not_mem he]; omega

theorem zbF (bs:List BR) (ls:List LK):zaW bs ls↔ls.length≤9∧(∀x∈ls,zce bs x)∧(endsL ls).Nodup:=by
 rw [zjl];unfold zaW zgm
 constructor
 ·rintro ⟨h1,h2⟩;exact ⟨h1,fun x hx=>(h2 x hx).1,fun x hx=>(h2 x hx).2⟩
 ·rintro ⟨h1,h2,h3⟩;exact ⟨h1,fun x hx=>⟨h2 x hx,h3 x hx⟩⟩

theorem zet (ls:List LK) (b p:Int):zaM ls b p=none↔usedL ls b p=0:=by
 unfold zaM usedL;rw [List.findSome?_eq_none_iff,List.count_eq_zero]
 constructor
 ·intro h hm;obtain ⟨x,hx,he⟩:=List.mem_flatMap.1 hm
  have:=h x hx
  unfold zaG at this;simp only [List.mem_cons,Prod.mk.injEq,List.not_mem_nil,or_false] at he;rcases he with ⟨h1,h2⟩ | ⟨h1,h2⟩
  ·rw [if_pos ⟨h1.symm,h2.symm⟩] at this; cases this
  ·split at this
   ·cases this
   ·rw [if_pos ⟨h1.symm,h2.symm⟩] at this; cases this
 ·intro h x hx;obtain ⟨m1,m2⟩:=zdy hx;unfold zaG;rw [if_neg,if_neg]
  ·rintro ⟨h1,h2⟩; exact h (by rw [← h1,← h2]; exact m2)
  ·rintro ⟨h1,h2⟩; exact h (by rw [← h1,← h2]; exact m1)

theorem zbK {α:Type} {l:List α} {k:Nat} {x:α} {P:α→Prop} (h:l[k]? = some x) (hp:∀y∈l.take k,P y) (hx:P x):∀y∈l.take (k+1),P y:=by
 rw [List.take_add_one,h];intro y hy;rcases List.mem_append.1 hy with hy | hy
 ·exact hp y hy
 ·have:=List.mem_singleton.1 (by simpa using hy)
  rw [this]; exact hx

theorem zbg (N:NV) (b p:Int) (w:World) (h:zas w N) (hsm:N.ln≤16777216) :
  Calls Tryz.prog 46 #[.agg #[.slice N.ba N.bn N.bc,.slice N.la N.ln N.lc,.slice N.sa N.sn N.sc],.int .i64 b,.int .i64 p] w fun e w'=>e=.returned (.int .i64 (usedL N.ls b p))∧Below w.heap.size w w':=by
 have hsz:=hide h.l.size;go_enter Tryz.func46,Tryz.ntmps46;go_wp2_with fail
 generalize hw1:w.alloc (Obj.cells #[.slice N.ba N.bn N.bc,.slice N.la N.ln N.lc,.slice N.sa N.sn N.sc] 31)=w1;have b01:=zb hw1;have k1:=zk hw1;clear hw1
 go_loopw [7,8] (fun m i wr=>∃k:Nat,k≤N.ln∧i=.int .i64 k∧m=.int .i64 (usedL (N.ls.take k) b p:Nat)∧wr.heap[w.heap.size]? = some (.cells #[.slice N.ba N.bn N.bc,.slice N.la N.ln N.lc,.slice N.sa N.sn N.sc] 31)∧Below w.heap.size w wr) (fun _ i _=>N.ln - (intOf i).toNat)
 case atStart=>exact ⟨0,Nat.zero_le _,rfl,by simp [usedL,endsL],k1,b01⟩
 case round =>
  obtain ⟨k,hk,rfl,rfl,hbox,hb⟩:=hrel;clear k1 b01;obtain ⟨x0,x1,x2⟩:=zd hbox;by_cases hlt:k < N.ln
  ·obtain ⟨x,lb,off,hx,hla,a0,a1,a2,a3⟩:=zaX (h.l.below hb) k hlt;rw [hla] at x1;clear hla;have i1:(0:Int)≤(k:Int):=by omega
   have i2:(k:Int) < (N.ln:Int):=by omega
   have hul:usedL (N.ls.take k) b p≤33554432:=by have:=zj5 (N.ls.take k) b p; rw [List.length_take] at this; omega
   have HX:=hide hx;have KB:Hid (∀o:Obj,(wr.alloc o).heap[w.heap.size]? = some (.cells #[.slice N.ba N.bn N.bc,.slice N.la N.ln N.lc,.slice N.sa N.sn N.sc] 31)∧Below w.heap.size w (wr.alloc o)):=hide (fun o=>⟨za hbox (zg _ _),zc hb (zg _ _)⟩);clear hx hb hbox;by_cases st:x.a=b∧x.p=p
   ·obtain ⟨s,t⟩:=id st;by_cases uv:x.b=b∧x.q=p
    ·obtain ⟨u,v⟩:=id uv;have HM:Hid (usedL (N.ls.take (k+1)) b p=usedL (N.ls.take k) b p+2):=hide (by rw [zbq HX.out]; unfold hit; rw [if_pos st,if_pos uv]);generalize hU:usedL (N.ls.take k) b p=U at *;go_wp2
     go_roundw
     case rel=>exact ⟨k+1,by omega,by go_num,by rw [HM.out]; go_num,KB.out _⟩
     case measure=>simp [intOf]; omega
    ·by_cases u:x.b=b
     ·have v:¬x.q=p:=fun q=>uv ⟨u,q⟩
      have HM:Hid (usedL (N.ls.take (k+1)) b p=usedL (N.ls.take k) b p+1):=hide (by rw [zbq HX.out]; unfold hit; rw [if_pos st,if_neg uv]);generalize hU:usedL (N.ls.take k) b p=U at *;go_wp2
      go_roundw
      case rel=>exact ⟨k+1,by omega,by go_num,by rw [HM.out]; go_num,KB.out _⟩
      case measure=>simp [intOf]; omega
     ·have HM:Hid (usedL (N.ls.take (k+1)) b p=usedL (N.ls.take k) b p+1):=hide (by rw [zbq HX.out]; unfold hit; rw [if_pos st,if_neg uv]);generalize hU:usedL (N.ls.take k) b p=U at *;go_wp2
      go_roundw
      case rel=>exact ⟨k+1,by omega,by go_num,by rw [HM.out]; go_num,KB.out _⟩
      case measure=>simp [intOf]; omega
   ·by_cases s:x.a=b
    ·have t:¬x.p=p:=fun q=>st ⟨s,q⟩
     by_cases uv:x.b=b∧x.q=p
     ·obtain ⟨u,v⟩:=id uv;have HM:Hid (usedL (N.ls.take (k+1)) b p=usedL (N.ls.take k) b p+1):=hide (by rw [zbq HX.out]; unfold hit; rw [if_neg st,if_pos uv]);generalize hU:usedL (N.ls.take k) b p=U at *;go_wp2
      go_roundw
      case rel=>exact ⟨k+1,by omega,by go_num,by rw [HM.out]; go_num,KB.out _⟩
      case measure=>simp [intOf]; omega
     ·by_cases u:x.b=b
      ·have v:¬x.q=p:=fun q=>uv ⟨u,q⟩
       have HM:Hid (usedL (N.ls.take (k+1)) b p=usedL (N.ls.take k) b p+0):=hide (by rw [zbq HX.out]; unfold hit; rw [if_neg st,if_neg uv]);generalize hU:usedL (N.ls.take k) b p=U at *;go_wp2
       go_roundw
       case rel=>exact ⟨k+1,by omega,by go_num,by rw [HM.out]; go_num,KB.out _⟩
       case measure=>simp [intOf]; omega
      ·have HM:Hid (usedL (N.ls.take (k+1)) b p=usedL (N.ls.take k) b p+0):=hide (by rw [zbq HX.out]; unfold hit; rw [if_neg st,if_neg uv]);generalize hU:usedL (N.ls.take k) b p=U at *;go_wp2
       go_roundw
       case rel=>exact ⟨k+1,by omega,by go_num,by rw [HM.out]; go_num,KB.out _⟩
       case measure=>simp [intOf]; omega
    ·by_cases uv:x.b=b∧x.q=p
     ·obtain ⟨u,v⟩:=id uv;have HM:Hid (usedL (N.ls.take (k+1)) b p=usedL (N.ls.take k) b p+1):=hide (by rw [zbq HX.out]; unfold hit; rw [if_neg st,if_pos uv]);generalize hU:usedL (N.ls.take k) b p=U at *;go_wp2
      go_roundw
      case rel=>exact ⟨k+1,by omega,by go_num,by rw [HM.out]; go_num,KB.out _⟩
      case measure=>simp [intOf]; omega
     ·by_cases u:x.b=b
      ·have v:¬x.q=p:=fun q=>uv ⟨u,q⟩
       have HM:Hid (usedL (N.ls.take (k+1)) b p=usedL (N.ls.take k) b p+0):=hide (by rw [zbq HX.out]; unfold hit; rw [if_neg st,if_neg uv]);generalize hU:usedL (N.ls.take k) b p=U at *;go_wp2
       go_roundw
       case rel=>exact ⟨k+1,by omega,by go_num,by rw [HM.out]; go_num,KB.out _⟩
       case measure=>simp [intOf]; omega
      ·have HM:Hid (usedL (N.ls.take (k+1)) b p=usedL (N.ls.take k) b p+0):=hide (by rw [zbq HX.out]; unfold hit; rw [if_neg st,if_neg uv]);generalize hU:usedL (N.ls.take k) b p=U at *;go_wp2
       go_roundw
       case rel=>exact ⟨k+1,by omega,by go_num,by rw [HM.out]; go_num,KB.out _⟩
       case measure=>simp [intOf]; omega
  ·have hkn:k=N.ln:=by omega
   rw [List.take_of_length_le (by have:=hsz.out; omega)];subst hkn;go_wp2;go_ret;exact ⟨rfl,hb⟩

def endOk (bs:List BR) (ls:List LK) (b p:Int):Bool:=(zak bs b p).isSome && decide (usedL ls b p=1)

theorem zb0 (N:NV) (b p:Int) (w:World) (h:zas w N) (hsm:N.ln≤16777216) :
  Calls Tryz.prog 39 #[.agg #[.slice N.ba N.bn N.bc,.slice N.la N.ln N.lc,.slice N.sa N.sn N.sc],.int .i64 b,.int .i64 p] w fun e w'=>e=.returned (.bool (endOk N.brs N.ls b p))∧Below w.heap.size w w':=by
 have hle:=Nat.le_trans h.b.le h.b.top;unfold maxLen at hle;have hsz:=h.b.size;generalize hG:endOk N.brs N.ls b p=U;have HG:=hide hG;clear hG;generalize hw1:w.alloc (Obj.cells #[.slice N.ba N.bn N.bc,.slice N.la N.ln N.lc,.slice N.sa N.sn N.sc] 31)=w1;have b01:=zb hw1;have k1:=zk hw1;obtain ⟨x0,x1,x2⟩:=zd k1;cases hA:(decide (0≤b) && decide (b≤(N.bn:Int) - 1))
 ·have HF:Hid (U=false):=hide (by rw [← HG.out]; unfold endOk; rw [zhC (by rw [zdS,hsz]; exact hA)]; rfl);go_enter Tryz.func39,Tryz.ntmps39;(go_wp2_with fail);refine (zh b 0 ((N.bn:Int) - 1) _).mono ?_;rintro e w2 ⟨rfl,ew⟩;obtain rfl:=ew.symm;rw [hA];clear hA;go_wp2;go_ret;exact ⟨by rw [HF.out]; rfl,b01⟩
 ·obtain ⟨k,rfl⟩:∃k:Nat,b=(k:Int):=⟨b.toNat,by simp at hA; omega⟩;have hk:k < N.bn:=by simp at hA; omega
  obtain ⟨x,bb,off,hx,hba,c0,c1,c2,c3,c4,c5,c6,c7,c8,c9,c10⟩:=br_at (h.b.below b01) k hk;have hr:=(h.item x (List.mem_of_getElem? hx)).below b01;have hpl:=Nat.le_trans hr.ports.le hr.ports.top;unfold maxLen at hpl;have i1:(0:Int)≤(k:Int):=by omega
  have i2:(k:Int) < (N.bn:Int):=by omega
  have HX:=hide (zd7 hx);have K1:=hide k1;clear hx;rw [hba] at x0;cases hB:(decide (0≤p) && decide (p≤(x.n:Int) - 1))
  ·have HF:Hid (U=false):=hide (by rw [← HG.out]; unfold endOk; rw [zf8 HX.out (by rw [hr.ports.size]; exact hB)]; rfl);clear hba;go_enter Tryz.func39,Tryz.ntmps39;(go_wp2_with fail);refine (zh (k:Int) 0 ((N.bn:Int) - 1) _).mono ?_;rintro e w2 ⟨rfl,ew⟩;obtain rfl:=ew.symm;rw [hA];clear hA;(go_wp2_with fail);refine (zh p 0 ((x.n:Int) - 1) _).mono ?_;rintro e w2 ⟨rfl,ew⟩;obtain rfl:=ew.symm;rw [hB];clear hB;go_wp2;go_ret;exact ⟨by rw [HF.out]; rfl,b01⟩
  ·obtain ⟨j,rfl⟩:∃j:Nat,p=(j:Int):=⟨p.toNat,by simp at hB; omega⟩;have hj:j < x.n:=by simp at hB; omega
   obtain ⟨y,pb,po,hy,-,-⟩:=pt_at hr.ports j hj;have HF:Hid (U=decide (usedL N.ls (k:Int) (j:Int)=1)):=hide (by rw [← HG.out]; unfold endOk; rw [zhB HX.out hy]; rfl);have i3:(0:Int)≤(j:Int):=by omega
   have i4:(j:Int) < (x.n:Int):=by omega
   clear hba hy;go_enter Tryz.func39,Tryz.ntmps39;(go_wp2_with fail);refine (zh (k:Int) 0 ((N.bn:Int) - 1) _).mono ?_;rintro e w2 ⟨rfl,ew⟩;obtain rfl:=ew.symm;rw [hA];clear hA;(go_wp2_with fail);refine (zh (j:Int) 0 ((x.n:Int) - 1) _).mono ?_;rintro e w2 ⟨rfl,ew⟩;obtain rfl:=ew.symm;rw [hB];clear hB;clear x0;obtain ⟨x0,-,-⟩:=zd K1.out;(go_wp2_with fail);refine (zbg N (k:Int) (j:Int) _ (h.below b01) hsm).mono ?_;rintro e w5 ⟨rfl,hb5⟩;have HB:=hide (zc b01 hb5);clear hb5 x0 x1 x2 c0 c1 c2 c3 c4 c5 c6 c7 c8 c9 c10;generalize hV:usedL N.ls (k:Int) (j:Int)=V at *;have HV:Hid (decide ((V:Int)=1)=decide (V=1)):=hide (by by_cases e:V=1 <;> simp [e]; omega);go_wp2;go_ret;exact ⟨by rw [HF.out]; exact zH (by by_cases e:V=1 <;> simp [e] <;> omega),HB.out⟩

end Go.Proofs.YtkcoehmpnkdinaaGreat
