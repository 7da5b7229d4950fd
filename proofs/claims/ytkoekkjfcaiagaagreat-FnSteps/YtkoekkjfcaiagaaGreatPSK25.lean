/-
  Packed: MapWalk FdbList FdbImplR.
-/
import Derived.Test.YtkoekkjfcaiagaaGreatPSKW
import Derived.Test.YtkoekkjfcaiagaaGreatPSFdbTable
import Derived.Test.YtkoekkjfcaiagaaGreatPSK01
namespace Go.Proofs.YtkoekkjfcaiagaaGreat
set_option maxRecDepth 100000
set_option maxHeartbeats 16000000
open Go.RowKit

theorem zcD (w:World) {ops:Array Oper} {rest:List Oper} {o:Oper} {a:Act} {Q:Exit→Act→World→Prop} (hg:o.guard=none) (m:Operand) (hop:o.op=Op.range 218 m) (b n:Nat) (g:FK→Option FE)
  (hm:a.eval m=.map (some b)) (h:MapIs mE w b n g)
  (hK:∀w' cnt,Ranging mE w' b w.heap.size n g (fun k=>(g k).isSome) cnt→Below w.heap.size w w'→w'.heap.size=w.heap.size+1→wpList Tryz.prog ops Q rest (a.put o.dst (.pointer (some ⟨w.heap.size,0,none⟩))) w') :
  wpList Tryz.prog ops Q (o::rest) a w:=by
 refine wpList_plain hg fun K' hK' => ?_
 obtain ⟨w',cnt,hrun,r1,r2,r3⟩:=h.range;have hrun:(Instr.range 218 (.map (some b))).run Tryz.prog w=.ok (.pointer (some ⟨w.heap.size,0,none⟩)) w':=hrun;unfold Oper.wp
 simp [execOp,hop,hm,hrun,Result.andThen]
 exact hK' _ _ (hK w' cnt r1 r2 r3)

structure NxS where
 y:FK
 v:FE
 w:World
 cnt:Nat

structure NxOk (w:World) (b r n:Nat) (g:FK→Option FE) (left:FK→Bool) (cnt:Nat) (s:NxS):Prop where
 ok:FKok s.y
 lf:left s.y=true
 gt:g s.y=some s.v
 rg:Ranging mE s.w b r n g (upd left s.y false) s.cnt
 lt:s.cnt < cnt
 gr:w.grownBy s.w (some r)
 en:(Instr.entry (.pointer (some ⟨r,0,none⟩))).run Tryz.prog s.w=.ok (.tuple #[.agg #[.int .i64 s.y.1,.int .i64 s.y.2.1,.int .i64 s.y.2.2],.agg #[.int .i64 s.v.t,.int .i64 s.v.m,.int .i64 s.v.p,.int .i64 s.v.a,.bool s.v.s]]) s.w

def zju (left:FK→Bool):Prop:=∀k,left k=false

theorem zcZ (w:World) {ops:Array Oper} {rest:List Oper} {o:Oper} {a:Act} {Q:Exit→Act→World→Prop} (hg:o.guard=none) (it:Operand) (hop:o.op=Op.next it false) (b r n:Nat) (g:FK→Option FE) (left:FK→Bool) (cnt:Nat)
  (hit:a.eval it=.pointer (some ⟨r,0,none⟩)) (h:Ranging mE w b r n g left cnt)
  (hDone:zju left→wpList Tryz.prog ops Q rest (a.put o.dst (.tuple #[.bool false])) w)
  (hMore:∀s:NxS,NxOk w b r n g left cnt s →
   wpList Tryz.prog ops Q rest (a.put o.dst (.tuple #[.bool true,.agg #[.int .i64 s.y.1,.int .i64 s.y.2.1,.int .i64 s.y.2.2],.agg #[.int .i64 s.v.t,.int .i64 s.v.m,.int .i64 s.v.p,.int .i64 s.v.a,.bool s.v.s]])) s.w) :
  wpList Tryz.prog ops Q (o::rest) a w:=by
 refine wpList_plain hg fun K' hK' => ?_
 unfold Oper.wp;rcases h.next o.type with ⟨_,hl,hrun⟩ | ⟨y,v,w',cnt',h1,h2,h3,hrun,h4,h5,h6,h7,h8⟩
 ·simp [execOp,hop,hit,hrun,Result.andThen]
  exact hK' _ _ (hDone hl)
 ·simp [execOp,hop,hit,hrun,Result.andThen]
  exact hK' _ _ (hMore ⟨y,v,w',cnt'⟩ ⟨h1,h2,h3,h4,h5,h6,h8⟩)

def midF (f:FE→Option FE) (g:FK→Option FE) (left:FK→Bool):FK→Option FE:=fun k=>if left k=true then g k else (g k).bind f

theorem zf1 (f:FE→Option FE) (g:FK→Option FE):midF f g (fun k=>(g k).isSome)=g:=by
 funext k
 unfold midF;cases h:g k <;> simp [h]

theorem zj5 (f:FE→Option FE) (g:FK→Option FE) {left:FK→Bool} (h:∀k,left k=false):midF f g left=fun k=>(g k).bind f:=by
 funext k
 unfold midF;rw [h k]
 rfl

theorem zix {f:FE→Option FE} {g:FK→Option FE} {left:FK→Bool} {y:FK} {v:FE} (h:left y=true) (hv:midF f g left y=some v):g y=some v:=by
 unfold midF at hv;rw [if_pos h] at hv;exact hv

theorem zhl {f:FE→Option FE} {g:FK→Option FE} {left:FK→Bool} {y:FK} {v:FE} (h:left y=true) (hv:midF f g left y=some v):upd (midF f g left) y (f v)=midF f g (upd left y false):=by
 have hg:=zix h hv
 funext k
 by_cases e:k=y
 ·subst e;rw [zat];unfold midF;rw [zat,hg]
  rfl
 ·rw [zai _ _ e];unfold midF;rw [zai left _ e]

theorem zhc {l:List FE} {k:FK} {e:FE} (h:zao l k=some e):e∈l:=by
 by_cases hk:k∈zaq l
 ·obtain ⟨i,hi⟩:=List.getElem?_of_mem hk;obtain ⟨e',he',hk'⟩:=zj1 hi;rw [h] at hk';cases hk';exact List.mem_of_getElem? he'
 ·rw [zih l hk] at h;cases h

abbrev q306:Oper:=⟨some 18,.move (.tmp 0),215,"l08_fdb.go:173",#[],none⟩
abbrev q307:Oper:=⟨some 19,.nilCheck (.tmp 18),0,"l08_fdb.go:173",#[⟨0,.data⟩],none⟩
abbrev q308:Oper:=⟨some 20,.fieldAddr 220 (.tmp 19) 1,0,"l08_fdb.go:173",#[⟨1,.data⟩],none⟩
abbrev q309:Oper:=⟨some 21,.load 218 (.tmp 20),218,"l08_fdb.go:173",#[⟨2,.data⟩],none⟩
abbrev q310:Oper:=⟨some 22,.load 222 (.tmp 5),222,"l08_fdb.go:173",#[],none⟩
abbrev q311:Oper:=⟨some 23,.lookup 218 (.tmp 21) (.tmp 22) true,236,"l08_fdb.go:173",#[⟨3,.data⟩,⟨4,.data⟩],none⟩
abbrev q312:Oper:=⟨some 17,.move (.tmp 23),236,"l08_fdb.go:173",#[⟨5,.data⟩],none⟩
abbrev q313:Oper:=⟨some 24,.extract (.tmp 17) 0,131,"l08_fdb.go:173",#[⟨6,.data⟩],none⟩
abbrev q314:Oper:=⟨some 25,.extract (.tmp 17) 1,4,"l08_fdb.go:173",#[⟨6,.data⟩,{ on:=10,ground:=Ground.gcOnly Departure.lateStores }],none⟩
abbrev q315:Oper:=⟨some 6,.alloc 131,0,"l08_fdb.go:173",#[],none⟩
abbrev q316:Oper:=⟨none,.store 131 (.tmp 6) (.tmp 24),0,"l08_fdb.go:173",#[⟨9,.data⟩,⟨7,.data⟩,⟨0,.phase⟩,⟨1,.phase⟩,⟨2,.phase⟩,⟨3,.phase⟩,⟨4,.phase⟩,⟨5,.phase⟩,⟨6,.phase⟩,⟨7,.phase⟩,{ on:=8,ground:=Ground.textOnly Departure.lateStores },⟨9,.phase⟩],none⟩
abbrev q317:Oper:=⟨some 7,.assign (.tmp 25),4,"l08_fdb.go:173",#[⟨8,.data⟩,⟨10,.chain⟩,⟨0,.phase⟩,⟨1,.phase⟩,⟨2,.phase⟩,⟨3,.phase⟩,⟨4,.phase⟩,⟨5,.phase⟩,⟨6,.phase⟩,⟨7,.phase⟩,⟨8,.phase⟩,⟨9,.phase⟩,⟨10,.phase⟩],none⟩

theorem zhk {N:Nat} (w:World) (base p bm:Nat) (ks:List FK) (g:FK→Option FE) (h:TabN N w base p bm ks g) :
  Calls Tryz.prog 197 #[.pointer (some ⟨p,0,none⟩)] w fun r w'=>∃ao' cap',r=.returned (.slice ao' (ks.filterMap g).length cap')∧w'.ownsRow w.heap.size 131 5 (.slice ao' (ks.filterMap g).length cap') (ks.filterMap g).length (fentF.all (ks.filterMap g))∧GRow fentF w' ao' (ks.filterMap g).length cap' (ks.filterMap g)∧Below w.heap.size w w':=by
 obtain ⟨ao,cap,hbox,hown⟩:=h.box;have hrow:=zB (F:=fkF) hown;have hmap:=h.map;have hoks:=h.oks;have hfew:=h.few;have htop:=Nat.le_trans hrow.le hrow.top;unfold maxLen at htop;obtain ⟨⟨p0,p1⟩,-⟩:=zau hbox;clear h hown;go_enter Tryz.func197,Tryz.ntmps197;go_wp2
 go_loopw [3,13] (fun o i wr=>∃(k:Nat) (zs:List FE) (az:Option Addr) (cz nz:Nat),k≤ks.length∧i=.int .i64 k∧o=.slice az nz cz∧zs.length=nz∧nz≤k∧wr.ownsRow w.heap.size 131 5 (.slice az nz cz) nz (fentF.all zs)∧zs++(ks.drop k).filterMap g=ks.filterMap g∧Below w.heap.size w wr) (fun _ i _=>ks.length - (intOf i).toNat)
 case atStart=>exact ⟨0,[],none,0,0,Nat.zero_le _,rfl,rfl,rfl,Nat.zero_le _,World.ownsRow_nil _ _ _ _,by simp,Below.refl _ _⟩
 case round =>
  obtain ⟨k,zs,az,cz,nz,hk,rfl,rfl,hzs,hnz,how,hz,hb⟩:=hrel;by_cases hlt:k < ks.length
  ·obtain ⟨y,b,off,hy,rfl,a0,a1,a2⟩:=fk_at (hrow.below hb) k hlt;have hyk:=hoks y (List.mem_of_getElem? hy);have hdr:ks.drop k=y::ks.drop (k+1):=by
    obtain ⟨h1,rfl⟩:=List.getElem?_eq_some_iff.1 hy;exact List.drop_eq_getElem_cons h1
   have hpx:=za hbox hb;have hmap:=hmap.kept hb;clear hy;cases hgy:g y with
   | some e =>
    have hS:∀W,Below (wr.alloc (.cells #[.int .i64 y.1,.int .i64 y.2.1,.int .i64 y.2.2] 222)).heap.size (wr.alloc (.cells #[.int .i64 y.1,.int .i64 y.2.1,.int .i64 y.2.2] 222)) W→(W.cell? ⟨p,1,none⟩=some (.map (some bm))∧(W.cell? ⟨wr.heap.size,0,none⟩=some (.int .i64 y.1)∧W.cell? ⟨wr.heap.size,1,none⟩=some (.int .i64 y.2.1)∧W.cell? ⟨wr.heap.size,2,none⟩=some (.int .i64 y.2.2))∧(Instr.lookup 218 (.map (some bm)) (.agg #[.int .i64 y.1,.int .i64 y.2.1,.int .i64 y.2.2]) true).run Tryz.prog W=.ok (.tuple #[.agg #[.int .i64 e.t,.int .i64 e.m,.int .i64 e.p,.int .i64 e.a,.bool e.s],.bool true]) W):=by
     intro W hW;have hW1:Below wr.heap.size wr W:=zc (zm wr (.cells #[.int .i64 y.1,.int .i64 y.2.1,.int .i64 y.2.2] 222)) hW;refine ⟨(zau (za hpx hW1)).1.2,(zaC (za (zw wr (.cells #[.int .i64 y.1,.int .i64 y.2.1,.int .i64 y.2.2] 222)) hW)).1, ?_⟩
     have:=(hmap.kept hW1).look true hyk
     rw [hgy] at this;exact this
    have HSS:=hide hS;clear hS;(go_wp2_with fail);refine wp_region_held_drew (S:=(fun W=>W.cell? ⟨p,1,none⟩=some (.map (some bm))∧(W.cell? ⟨wr.heap.size,0,none⟩=some (.int .i64 y.1)∧W.cell? ⟨wr.heap.size,1,none⟩=some (.int .i64 y.2.1)∧W.cell? ⟨wr.heap.size,2,none⟩=some (.int .i64 y.2.2))∧(Instr.lookup 218 (.map (some bm)) (.agg #[.int .i64 y.1,.int .i64 y.2.1,.int .i64 y.2.2]) true).run Tryz.prog W=.ok (.tuple #[.agg #[.int .i64 e.t,.int .i64 e.m,.int .i64 e.p,.int .i64 e.a,.bool e.s],.bool true]) W)) (by kernel_rfl) (by first | exact HSS.out _ (zp (Below.refl _ _)) | exact HSS.out _ (zp (zm _ _))) (fun hHeld => ?_);refine kK 0 q306 ?_;refine kK 1 q307 ?_;refine kK 2 q308 ?_;refine kK 3 q309 ?_;refine kK 4 q310 ?_;refine kK 5 q311 ?_;refine kK 6 q312 ?_;refine kK 7 q313 ?_;refine kK 8 q314 ?_;refine kR 9 q315 (fun K hK => ?_);go_simp;refine hK.out _ _ (by first | exact HSS.out _ (zp (Below.refl _ _)) | exact HSS.out _ (zp (zm _ _))) (fun hHeld => ?_);clear hK K;(try simp only [Act.put,lA,lB,lC]);refine kR 10 q316 (fun K hK => ?_);go_simp;refine hK.out _ _ (by first | exact HSS.out _ (zp (Below.refl _ _)) | exact HSS.out _ (zp (zm _ _))) (fun hHeld => ?_);clear hK K;(try simp only [Act.put,lA,lB,lC]);refine kK 11 q317 ?_;refine wpAnyH_done (by kernel_rfl) ?_ _;have o2:(((wr.alloc (.cells #[.int .i64 y.1,.int .i64 y.2.1,.int .i64 y.2.2] 222)).alloc (.cells #[.int .i64 e.t,.int .i64 e.m,.int .i64 e.p,.int .i64 e.a,.bool e.s] 131)).drew).ownsRow w.heap.size 131 5 (.slice az nz cz) nz (fentF.all zs):=zh how (zp (zb9 (zm wr (.cells #[.int .i64 y.1,.int .i64 y.2.1,.int .i64 y.2.2] 222)) (.cells #[.int .i64 e.t,.int .i64 e.m,.int .i64 e.p,.int .i64 e.a,.bool e.s] 131)));have b2:Below w.heap.size w (((wr.alloc (.cells #[.int .i64 y.1,.int .i64 y.2.1,.int .i64 y.2.2] 222)).alloc (.cells #[.int .i64 e.t,.int .i64 e.m,.int .i64 e.p,.int .i64 e.a,.bool e.s] 131)).drew):=zc hb (zp (zb9 (zm wr (.cells #[.int .i64 y.1,.int .i64 y.2.1,.int .i64 y.2.2] 222)) (.cells #[.int .i64 e.t,.int .i64 e.m,.int .i64 e.p,.int .i64 e.a,.bool e.s] 131)));have x2:(((wr.alloc (.cells #[.int .i64 y.1,.int .i64 y.2.1,.int .i64 y.2.2] 222)).alloc (.cells #[.int .i64 e.t,.int .i64 e.m,.int .i64 e.p,.int .i64 e.a,.bool e.s] 131)).drew).heap[wr.heap.size+1]?=some (.cells #[.int .i64 e.t,.int .i64 e.m,.int .i64 e.p,.int .i64 e.a,.bool e.s] 131):=by
     have:=zw (wr.alloc (.cells #[.int .i64 y.1,.int .i64 y.2.1,.int .i64 y.2.2] 222)) (.cells #[.int .i64 e.t,.int .i64 e.m,.int .i64 e.p,.int .i64 e.a,.bool e.s] 131)
     rw [show (wr.alloc (.cells #[.int .i64 y.1,.int .i64 y.2.1,.int .i64 y.2.2] 222)).heap.size=wr.heap.size+1 by simp] at this;exact this
    clear HSS hHeld how hb hpx hmap;generalize hw2:((wr.alloc (.cells #[.int .i64 y.1,.int .i64 y.2.1,.int .i64 y.2.2] 222)).alloc (.cells #[.int .i64 e.t,.int .i64 e.m,.int .i64 e.p,.int .i64 e.a,.bool e.s] 131)).drew=w2 at *;clear hw2;obtain ⟨⟨x0,x1,x3,x4,x5⟩,-⟩:=zC x2;have o3:=zh o2 (zm w2 (.cells #[.int .i64 e.t,.int .i64 e.m,.int .i64 e.p,.int .i64 e.a,.bool e.s] 131));have HBR:=hide (zc b2 (zm w2 (.cells #[.int .i64 e.t,.int .i64 e.m,.int .i64 e.p,.int .i64 e.a,.bool e.s] 131)));have hbase9:w.heap.size≤(w2.alloc (.cells #[.int .i64 e.t,.int .i64 e.m,.int .i64 e.p,.int .i64 e.a,.bool e.s] 131)).heap.size:=HBR.out.size;have hl1:(zs++[e]).length=nz+1:=by simp [hzs]
    have HL:=hide hl1;have HQ:=hide (show zs++[e]++(ks.drop (k+1)).filterMap g=ks.filterMap g by rw [← hz,hdr,List.filterMap_cons,hgy,List.append_assoc]; rfl);clear o2 b2 hz hl1 x2;go_wp2_with (at_builtin; refine zbc _ rfl _ _ rfl w.heap.size _ nz zs rfl o3 _ 1 1 [e] rfl (zbU fentF _ e _ _ rfl) (by omega) hbase9 ?_)
    intro ao9 cap9 w9 how9 hr9 hgr9 hb9;have HB9:=hide (HBR.out.trans hb9);have HO:=hide how9;clear how9 hr9 hgr9 hb9 o3 HBR x0 x1 x3 x4 x5;go_wp2
    go_roundw
    case rel=>exact ⟨k+1,zs++[e],ao9,cap9,nz+1,by omega,by go_num,rfl,HL.out,by omega,HO.out,HQ.out,HB9.out⟩
    case measure=>simp [intOf]; omega
   | none =>
    have hS:∀W,Below (wr.alloc (.cells #[.int .i64 y.1,.int .i64 y.2.1,.int .i64 y.2.2] 222)).heap.size (wr.alloc (.cells #[.int .i64 y.1,.int .i64 y.2.1,.int .i64 y.2.2] 222)) W→(W.cell? ⟨p,1,none⟩=some (.map (some bm))∧(W.cell? ⟨wr.heap.size,0,none⟩=some (.int .i64 y.1)∧W.cell? ⟨wr.heap.size,1,none⟩=some (.int .i64 y.2.1)∧W.cell? ⟨wr.heap.size,2,none⟩=some (.int .i64 y.2.2))∧(Instr.lookup 218 (.map (some bm)) (.agg #[.int .i64 y.1,.int .i64 y.2.1,.int .i64 y.2.2]) true).run Tryz.prog W=.ok (.tuple #[.agg #[.int .i64 0,.int .i64 0,.int .i64 0,.int .i64 0,.bool false],.bool false]) W):=by
     intro W hW;have hW1:Below wr.heap.size wr W:=zc (zm wr (.cells #[.int .i64 y.1,.int .i64 y.2.1,.int .i64 y.2.2] 222)) hW;refine ⟨(zau (za hpx hW1)).1.2,(zaC (za (zw wr (.cells #[.int .i64 y.1,.int .i64 y.2.1,.int .i64 y.2.2] 222)) hW)).1, ?_⟩
     have:=(hmap.kept hW1).look true hyk
     rw [hgy] at this;exact this
    have HSS:=hide hS;clear hS;(go_wp2_with fail);refine wp_region_held_drew (S:=(fun W=>W.cell? ⟨p,1,none⟩=some (.map (some bm))∧(W.cell? ⟨wr.heap.size,0,none⟩=some (.int .i64 y.1)∧W.cell? ⟨wr.heap.size,1,none⟩=some (.int .i64 y.2.1)∧W.cell? ⟨wr.heap.size,2,none⟩=some (.int .i64 y.2.2))∧(Instr.lookup 218 (.map (some bm)) (.agg #[.int .i64 y.1,.int .i64 y.2.1,.int .i64 y.2.2]) true).run Tryz.prog W=.ok (.tuple #[.agg #[.int .i64 0,.int .i64 0,.int .i64 0,.int .i64 0,.bool false],.bool false]) W)) (by kernel_rfl) (by first | exact HSS.out _ (zp (Below.refl _ _)) | exact HSS.out _ (zp (zm _ _))) (fun hHeld => ?_);refine kK 0 q306 ?_;refine kK 1 q307 ?_;refine kK 2 q308 ?_;refine kK 3 q309 ?_;refine kK 4 q310 ?_;refine kK 5 q311 ?_;refine kK 6 q312 ?_;refine kK 7 q313 ?_;refine kK 8 q314 ?_;refine kR 9 q315 (fun K hK => ?_);go_simp;refine hK.out _ _ (by first | exact HSS.out _ (zp (Below.refl _ _)) | exact HSS.out _ (zp (zm _ _))) (fun hHeld => ?_);clear hK K;(try simp only [Act.put,lA,lB,lC]);refine kR 10 q316 (fun K hK => ?_);go_simp;refine hK.out _ _ (by first | exact HSS.out _ (zp (Below.refl _ _)) | exact HSS.out _ (zp (zm _ _))) (fun hHeld => ?_);clear hK K;(try simp only [Act.put,lA,lB,lC]);refine kK 11 q317 ?_;refine wpAnyH_done (by kernel_rfl) ?_ _;have o2:(((wr.alloc (.cells #[.int .i64 y.1,.int .i64 y.2.1,.int .i64 y.2.2] 222)).alloc (.cells #[.int .i64 0,.int .i64 0,.int .i64 0,.int .i64 0,.bool false] 131)).drew).ownsRow w.heap.size 131 5 (.slice az nz cz) nz (fentF.all zs):=zh how (zp (zb9 (zm wr (.cells #[.int .i64 y.1,.int .i64 y.2.1,.int .i64 y.2.2] 222)) (.cells #[.int .i64 0,.int .i64 0,.int .i64 0,.int .i64 0,.bool false] 131)));have b2:Below w.heap.size w (((wr.alloc (.cells #[.int .i64 y.1,.int .i64 y.2.1,.int .i64 y.2.2] 222)).alloc (.cells #[.int .i64 0,.int .i64 0,.int .i64 0,.int .i64 0,.bool false] 131)).drew):=zc hb (zp (zb9 (zm wr (.cells #[.int .i64 y.1,.int .i64 y.2.1,.int .i64 y.2.2] 222)) (.cells #[.int .i64 0,.int .i64 0,.int .i64 0,.int .i64 0,.bool false] 131)));have x2:(((wr.alloc (.cells #[.int .i64 y.1,.int .i64 y.2.1,.int .i64 y.2.2] 222)).alloc (.cells #[.int .i64 0,.int .i64 0,.int .i64 0,.int .i64 0,.bool false] 131)).drew).heap[wr.heap.size+1]?=some (.cells #[.int .i64 0,.int .i64 0,.int .i64 0,.int .i64 0,.bool false] 131):=by
     have:=zw (wr.alloc (.cells #[.int .i64 y.1,.int .i64 y.2.1,.int .i64 y.2.2] 222)) (.cells #[.int .i64 0,.int .i64 0,.int .i64 0,.int .i64 0,.bool false] 131)
     rw [show (wr.alloc (.cells #[.int .i64 y.1,.int .i64 y.2.1,.int .i64 y.2.2] 222)).heap.size=wr.heap.size+1 by simp] at this;exact this
    clear HSS hHeld how hb hpx hmap;generalize hw2:((wr.alloc (.cells #[.int .i64 y.1,.int .i64 y.2.1,.int .i64 y.2.2] 222)).alloc (.cells #[.int .i64 0,.int .i64 0,.int .i64 0,.int .i64 0,.bool false] 131)).drew=w2 at *;clear hw2;have HQ:=hide (show zs++(ks.drop (k+1)).filterMap g=ks.filterMap g by rw [← hz,hdr,List.filterMap_cons,hgy]);have HO:=hide o2;have HB9:=hide b2;clear o2 b2 hz x2;go_wp2
    go_roundw
    case rel=>exact ⟨k+1,zs,az,cz,nz,by omega,by go_num,rfl,hzs,by omega,HO.out,HQ.out,HB9.out⟩
    case measure=>simp [intOf]; omega
  ·have hkn:k=ks.length:=by omega
   subst hkn;rw [List.drop_eq_nil_of_le (Nat.le_refl _)] at hz;have hz:zs=ks.filterMap g:=by simpa using hz
   have hl:nz=(ks.filterMap g).length:=by rw [← hz]; exact hzs.symm
   rw [hz] at how;subst hl;have HO:=hide how;have HR:=hide (zB how);have HB:=hide hb;clear how hb;go_wp2;go_ret;exact ⟨_,_,rfl,HO.out,HR.out,HB.out⟩

theorem zbV {w:World} {b i:Nat} {cs:Array Value} {T:TypeId} (hk:∀cs T,w.heap[b]?≠some (.cells cs T)) (h:w.heap[i]?=some (.cells cs T)):b≠i:=by
 intro e;subst e;exact hk _ _ h

theorem zdY {w w':World} {base k:Nat} {e:TypeId} {v:Value} {n:Nat} {xs:List Value} (h:w.ownsRow base e k v n xs) {b:Nat} (hg:w.grownBy w' (some b)) (hk:∀cs T,w.heap[b]?≠some (.cells cs T)):w'.ownsRow base e k v n xs:=by
 refine zt h hg ?_;intro i hi e1;subst e1;rcases h.2 with ⟨rfl,_⟩ | ⟨g,cap,cur,rfl,_,hh,_⟩
 ·cases hi
 ·cases hi;exact hk _ _ hh

theorem Ranging.iter {P:Program} {α β:Type} {M:MK P α β} {w:World} {b r n:Nat} {g:α→Option β} {left:α→Bool} {cnt:Nat} (h:Ranging M w b r n g left cnt):∀cs T,w.heap[r]?≠some (.cells cs T):=by
 obtain ⟨es,clock,since,seen,c0,hb,he,hr,-⟩:=h;intro cs T e;rw [hr] at e;cases e

theorem Ranging.mapk {P:Program} {α β:Type} {M:MK P α β} {w:World} {b r n:Nat} {g:α→Option β} {left:α→Bool} {cnt:Nat} (h:Ranging M w b r n g left cnt):∀cs T,w.heap[b]?≠some (.cells cs T):=by
 obtain ⟨es,clock,since,seen,c0,hb,-⟩:=h;intro cs T e;rw [hb] at e;cases e

structure RSt (w:World) (it:Nat) (wr:World) (p bm:Nat) (aq:Option Addr) (cq:Nat) (l:List FE) (f:FE→Option FE) (left:FK→Bool) (cnt:Nat):Prop where
 rg:Ranging mE wr bm it 16777216 (midF f (zao l) left) left cnt
 box:wr.heap[p]?=some (.cells #[.slice aq (zaq l).length cq,.map (some bm)] 220)
 own:wr.ownsRow w.heap.size 222 3 (.slice aq (zaq l).length cq) (zaq l).length (fkF.all (zaq l))
 bel:Below w.heap.size w wr

theorem RSt.turned {w:World} {it:Nat} {wr w':World} {p bm:Nat} {aq:Option Addr} {cq:Nat} {l:List FE} {f:FE→Option FE} {left:FK→Bool} {cnt j:Nat} (h:RSt w it wr p bm aq cq l f left cnt) (hg:wr.grownBy w' (some j)) (hk:∀cs T,wr.heap[j]?≠some (.cells cs T)) (hj:w.heap.size≤j) :
  w'.heap[p]?=some (.cells #[.slice aq (zaq l).length cq,.map (some bm)] 220)∧w'.ownsRow w.heap.size 222 3 (.slice aq (zaq l).length cq) (zaq l).length (fkF.all (zaq l))∧Below w.heap.size w w' :=
 ⟨ze h.box hg (fun i hi=>by cases hi; exact zbV hk h.box),zdY h.own hg hk,h.bel.grown hg h.bel.size (fun i hi=>by cases hi; exact hj)⟩

theorem RSt.tab {w:World} {it:Nat} {wr:World} {p bm:Nat} {aq:Option Addr} {cq:Nat} {l:List FE} {f:FE→Option FE} {left:FK→Bool} {cnt:Nat} (h:RSt w it wr p bm aq cq l f left cnt) (hl:∀k,left k=false) (h1:w.heap.size≤p) (h2:w.heap.size≤bm) (h3:∀k∈zaq l,FKok k) (h4:(zaq l).length≤16777216) :
  Tab wr w.heap.size p bm (zaq l) (fun k=>(zao l k).bind f) :=
 ⟨⟨aq,cq,h.box,h.own⟩,by have:=h.rg.is; rw [zj5 f (zao l) hl] at this; exact this,h1,h2,h3,h4⟩

def za1 (p:Int) (e:FE):Option FE:=if (e.s || (e.p != p))=true then some e else none

theorem zjk (l:List FE) (p:Int):zZ l p=l.filterMap (za1 p):=by
 induction l with
 | nil=>rfl
 | cons x r ih =>
  unfold zZ at *;unfold za1 at *;rw [List.filter_cons,List.filterMap_cons,ih];cases (x.s || (x.p != p)) <;> rfl

theorem zfQ (ao:Option Addr) (n cap:Nat) (l:List FE) (w:World) (h:GRow fentF w ao n cap l) (hn:n≤16777216) (hR:∀x∈l,x.Rng) :
  Calls Tryz.prog 191 #[.slice ao n cap] w fun r w'=>∃ao' cap',r=.returned (.slice ao' (ageF l).length cap')∧w'.ownsRow w.heap.size 131 5 (.slice ao' (ageF l).length cap') (ageF l).length (fentF.all (ageF l))∧GRow fentF w' ao' (ageF l).length cap' (ageF l)∧Below w.heap.size w w':=by
 rw [show ageF l=l.filterMap ageE from rfl];go_enter Tryz.func191,Tryz.ntmps191;go_wp2_with fail
 refine (zeB ao n cap l _ h hn hR).mono ?_;rintro r w1 ⟨p,bm,rfl,tab,hb1⟩;obtain ⟨aq,cq,hbox,hown⟩:=tab.box;obtain ⟨⟨pq0,pq1⟩,-⟩:=zau hbox;have hmap:=tab.map;have HLP:=hide tab.lp;have HLB:=hide tab.lb;have HOK:=hide tab.oks;have HFW:=hide tab.few;have hs1:=hb1.size;clear tab;go_wp2_with (first | (at_range; refine zcD _ rfl _ rfl bm 16777216 (zao l) rfl hmap ?_; intro w2 cnt2 hrg2 hb2 hs2) | go_in)
 go_frame
 have st2:RSt w w1.heap.size w2 p bm aq cq l ageE (fun k=>(zao l k).isSome) cnt2:=⟨by rw [zf1]; exact hrg2,za hbox hb2,zh hown hb2,zc hb1 hb2⟩;have HS2:=hide st2;clear st2 hrg2 hb2 hown hbox hmap pq0 pq1 hb1
 go_loopw [13] (fun _ wr=>∃left cnt,RSt w w1.heap.size wr p bm aq cq l ageE left cnt) (fun _ wr=>wr.rangeLeft bm w1.heap.size)
 case atStart=>exact ⟨_,_,HS2.out⟩
 case round =>
  obtain ⟨left,cnt,st⟩:=hrel;clear HS2;have hrg:=st.rg;have HST:=hide st;go_wp2_with (first | (at_next; refine zcZ _ rfl _ rfl bm w1.heap.size 16777216 _ left cnt rfl hrg ?_ ?_) | go_in)
  ·intro hl0;have hT:Tab wr w.heap.size p bm (zaq l) (fun k=>(zao l k).bind ageE):=st.tab hl0 HLP.out HLB.out HOK.out HFW.out;have HB:=hide st.bel;clear hrg st HST;(go_wp2_with fail);refine (zhk _ _ p bm _ _ hT).mono ?_;rintro r w9 ⟨ao9,cap9,rfl,ho9,hr9,hb9⟩;rw [zdX (zde l) ageE] at ho9 hr9;have HO:=hide (zF ho9 (base':=w.heap.size) HB.out.size);have HR:=hide hr9;have HB9:=hide (zc HB.out hb9);clear ho9 hr9 hb9 hT;go_wp2;go_ret;exact ⟨_,_,(by rw [zdX (zde l) ageE]; rfl),HO.out,HR.out,HB9.out⟩
  ·intro s hs;rcases s with ⟨y,v,w3,cnt3⟩
   obtain ⟨hyk,hly,hgy,hrg3,hlt3,hg3,hen⟩:=hs;dsimp only at hyk hly hgy hrg3 hlt3 hg3 hen ⊢;have hv:=hR v (zhc (zix hly hgy));have HN:=hide (zhl hly hgy);have hls:upd left y false y=false:=zat _ _ _;have st3:=st.turned hg3 (st.rg.iter) (by omega);have HLE:=hide hrg.left_eq;clear hrg st HST;cases hvs:v.s
   ·have HVS:=hide hvs;by_cases hva:v.a < 4
    ·have hfv:ageE v=some (⟨v.t,v.m,v.p,v.a+1,v.s⟩:FE):=by unfold ageE; rw [hvs]; simp [hva]
     rw [hvs] at hen;clear hvs;have hw:IntKind.i64.wrap (v.a+1)=v.a+1:=zeF _ (by have:=hv.2.2.2; omega);have b4:=zP w3 (.cells #[.int .i64 y.1,.int .i64 y.2.1,.int .i64 y.2.2] 222) (.cells #[.int .i64 v.t,.int .i64 v.m,.int .i64 v.p,.int .i64 (v.a+1),.bool false] 131);have q1:=za st3.1 b4;have q2:=zh st3.2.1 b4;have q3:=zc st3.2.2 b4;have q4:=hrg3.below b4;have kk:=za (zw w3 (.cells #[.int .i64 y.1,.int .i64 y.2.1,.int .i64 y.2.2] 222)) (zm _ (.cells #[.int .i64 v.t,.int .i64 v.m,.int .i64 v.p,.int .i64 (v.a+1),.bool false] 131));have ke:=zw (w3.alloc (.cells #[.int .i64 y.1,.int .i64 y.2.1,.int .i64 y.2.2] 222)) (.cells #[.int .i64 v.t,.int .i64 v.m,.int .i64 v.p,.int .i64 (v.a+1),.bool false] 131);rw [show (w3.alloc (.cells #[.int .i64 y.1,.int .i64 y.2.1,.int .i64 y.2.2] 222)).heap.size=w3.heap.size+1 by simp] at ke;have hfe:upd (midF ageE (zao l) left) y (some (⟨v.t,v.m,v.p,v.a+1,v.s⟩:FE))=midF ageE (zao l) (upd left y false):=by rw [← HN.out,hfv]
     have HFE:=hide hfe;clear hfe;(go_wp2_with fail);clear hen;generalize hw4:(w3.alloc (.cells #[.int .i64 y.1,.int .i64 y.2.1,.int .i64 y.2.2] 222)).alloc (.cells #[.int .i64 v.t,.int .i64 v.m,.int .i64 v.p,.int .i64 (v.a+1),.bool false] 131)=w4 at *;obtain ⟨w5,hr5,hrg5,hg5,-⟩:=Ranging.store (w:=w4.drew) (q4.kept rfl rfl) (by unfold maxLen; omega) hyk (by rw [hgy]; rfl) (⟨v.t,v.m,v.p,v.a+1,v.s⟩:FE);have hr5:(Instr.mapUpdate 218 (.map (some bm)) (.agg #[.int .i64 y.1,.int .i64 y.2.1,.int .i64 y.2.2]) (.agg #[.int .i64 v.t,.int .i64 v.m,.int .i64 v.p,.int .i64 (v.a+1),.bool v.s])).run Tryz.prog w4.drew=.ok () w5:=hr5;rw [HVS.out] at hr5;have hg5:w4.grownBy w5 (some bm):=⟨hg5.os,hg5.tape,hg5.output,hg5.size,hg5.block⟩;rw [HFE.out] at hrg5;have hk4:=q4.mapk;have n5:=zbV hk4 q1;have m5:=zbV hk4 kk;have o5:=zbV hk4 ke;have q5:=ze q1 hg5 (fun i hi=>by cases hi; exact n5);have kk5:=ze kk hg5 (fun i hi=>by cases hi; exact m5);have ke5:=ze ke hg5 (fun i hi=>by cases hi; exact o5);have HS5:=hide (show RSt w w1.heap.size w5 p bm aq cq l ageE (upd left y false) cnt3 from ⟨hrg5,q5,zdY q2 hg5 hk4,q3.grown hg5 q3.size (fun i hi=>by cases hi; exact HLB.out)⟩);have hS0:w4.drew.cell? ⟨p,1,none⟩=some (.map (some bm))∧_∧_:=⟨(zau (w:=w4.drew) q1).1.2,(zaC (w:=w4.drew) kk).1,(zC (w:=w4.drew) ke).1⟩;have hS1:w5.cell? ⟨p,1,none⟩=some (.map (some bm))∧_∧_:=⟨(zau q5).1.2,(zaC kk5).1,(zC ke5).1⟩;clear q1 q2 q3 q4 hrg3 st3 b4 hk4 n5 m5 o5 q5 kk5 ke5 hrg5 kk ke;refine wp_region_held_drew (S:=(fun W=>W.cell? ⟨p,1,none⟩=some (.map (some bm))∧(W.cell? ⟨w3.heap.size,0,none⟩=some (.int .i64 y.1)∧W.cell? ⟨w3.heap.size,1,none⟩=some (.int .i64 y.2.1)∧W.cell? ⟨w3.heap.size,2,none⟩=some (.int .i64 y.2.2))∧(W.cell? ⟨w3.heap.size+1,0,none⟩=some (.int .i64 v.t)∧W.cell? ⟨w3.heap.size+1,1,none⟩=some (.int .i64 v.m)∧W.cell? ⟨w3.heap.size+1,2,none⟩=some (.int .i64 v.p)∧W.cell? ⟨w3.heap.size+1,3,none⟩=some (.int .i64 (v.a+1))∧W.cell? ⟨w3.heap.size+1,4,none⟩=some (.bool false)))) (by kernel_rfl) (by first | exact hS0 | exact hS1) (fun hHeld => ?_);refine kK 0 ⟨some 22,.move (.tmp 3),215,"l08_fdb.go:67",#[],none⟩ ?_;refine kK 1 ⟨some 23,.nilCheck (.tmp 22),0,"l08_fdb.go:67",#[⟨0,.data⟩],none⟩ ?_;refine kK 2 ⟨some 24,.fieldAddr 220 (.tmp 23) 1,0,"l08_fdb.go:67",#[⟨1,.data⟩],none⟩ ?_;refine kK 3 ⟨some 25,.load 218 (.tmp 24),218,"l08_fdb.go:67",#[⟨2,.data⟩],none⟩ ?_;refine kK 4 ⟨some 26,.load 222 (.tmp 4),222,"l08_fdb.go:67",#[],none⟩ ?_;refine kK 5 ⟨some 27,.load 131 (.tmp 5),131,"l08_fdb.go:67",#[],none⟩ ?_;refine kR 6 ⟨none,.mapUpdate 218 (.tmp 25) (.tmp 26) (.tmp 27),0,"l08_fdb.go:67",#[⟨3,.data⟩,⟨4,.data⟩,⟨5,.data⟩,⟨0,.phase⟩,⟨1,.phase⟩,⟨2,.phase⟩,⟨3,.phase⟩,⟨4,.phase⟩,⟨5,.phase⟩],none⟩ (fun K hK => ?_);go_simp;refine hK.out _ _ (by first | exact hS0 | exact hS1) (fun hHeld => ?_);clear hK K;(try simp only [Act.put,lA,lB,lC]);refine wpAnyH_done (by kernel_rfl) ?_ _;clear hS0 hS1 hr5 hHeld;go_wp2
     go_roundw
     case rel=>exact ⟨_,_,HS5.out⟩
     case measure=>rw [HS5.out.rg.left_eq,HLE.out]; exact hlt3
    ·have hfv:ageE v=none:=by unfold ageE; rw [hvs]; simp [hva]
     have hva2:(4:Int)≤v.a:=by omega
     rw [hvs] at hen;clear hvs;have b4:=zP w3 (.cells #[.int .i64 y.1,.int .i64 y.2.1,.int .i64 y.2.2] 222) (.cells #[.int .i64 v.t,.int .i64 v.m,.int .i64 v.p,.int .i64 v.a,.bool false] 131);have q1:=za st3.1 b4;have q2:=zh st3.2.1 b4;have q3:=zc st3.2.2 b4;have q4:=hrg3.below b4;have kk:=za (zw w3 (.cells #[.int .i64 y.1,.int .i64 y.2.1,.int .i64 y.2.2] 222)) (zm _ (.cells #[.int .i64 v.t,.int .i64 v.m,.int .i64 v.p,.int .i64 v.a,.bool false] 131));have ke:=zw (w3.alloc (.cells #[.int .i64 y.1,.int .i64 y.2.1,.int .i64 y.2.2] 222)) (.cells #[.int .i64 v.t,.int .i64 v.m,.int .i64 v.p,.int .i64 v.a,.bool false] 131);rw [show (w3.alloc (.cells #[.int .i64 y.1,.int .i64 y.2.1,.int .i64 y.2.2] 222)).heap.size=w3.heap.size+1 by simp] at ke;(go_wp2_with fail);clear hen;generalize hw4:(w3.alloc (.cells #[.int .i64 y.1,.int .i64 y.2.1,.int .i64 y.2.2] 222)).alloc (.cells #[.int .i64 v.t,.int .i64 v.m,.int .i64 v.p,.int .i64 v.a,.bool false] 131)=w4 at *;obtain ⟨w5,cnt5,hr5,hrg5,hle5,hg5,-⟩:=Ranging.drop (w:=w4.drew) (q4.kept rfl rfl) hyk hls 0;have hr5:(Builtin.delete_ #[218,222] 0 #[.map (some bm),.agg #[.int .i64 y.1,.int .i64 y.2.1,.int .i64 y.2.2]]).run Tryz.prog w4.drew=.ok (.tuple #[]) w5:=hr5;have hg5:w4.grownBy w5 (some bm):=⟨hg5.os,hg5.tape,hg5.output,hg5.size,hg5.block⟩;have hfe:upd (midF ageE (zao l) left) y none=midF ageE (zao l) (upd left y false):=by rw [← HN.out,hfv]
     rw [hfe] at hrg5;have hk4:=q4.mapk;have n5:=zbV hk4 q1;have m5:=zbV hk4 kk;have q5:=ze q1 hg5 (fun i hi=>by cases hi; exact n5);have kk5:=ze kk hg5 (fun i hi=>by cases hi; exact m5);have HS5:=hide (show RSt w w1.heap.size w5 p bm aq cq l ageE (upd left y false) cnt5 from ⟨hrg5,q5,zdY q2 hg5 hk4,q3.grown hg5 q3.size (fun i hi=>by cases hi; exact HLB.out)⟩);have hS0:w4.drew.cell? ⟨p,1,none⟩=some (.map (some bm))∧_:=⟨(zau (w:=w4.drew) q1).1.2,(zaC (w:=w4.drew) kk).1⟩;have hS1:w5.cell? ⟨p,1,none⟩=some (.map (some bm))∧_:=⟨(zau q5).1.2,(zaC kk5).1⟩;clear q1 kk ke q2 q3 q4 hrg3 st3 hfe b4 hk4 n5 m5 q5 kk5 hrg5;refine wp_region_held_drew (S:=(fun W=>W.cell? ⟨p,1,none⟩=some (.map (some bm))∧(W.cell? ⟨w3.heap.size,0,none⟩=some (.int .i64 y.1)∧W.cell? ⟨w3.heap.size,1,none⟩=some (.int .i64 y.2.1)∧W.cell? ⟨w3.heap.size,2,none⟩=some (.int .i64 y.2.2)))) (by kernel_rfl) (by first | exact hS0 | exact hS1) (fun hHeld => ?_);refine kK 0 ⟨some 35,.move (.tmp 3),215,"l08_fdb.go:64",#[],none⟩ ?_;refine kK 1 ⟨some 36,.nilCheck (.tmp 35),0,"l08_fdb.go:64",#[⟨0,.data⟩],none⟩ ?_;refine kK 2 ⟨some 37,.fieldAddr 220 (.tmp 36) 1,0,"l08_fdb.go:64",#[⟨1,.data⟩],none⟩ ?_;refine kK 3 ⟨some 38,.load 218 (.tmp 37),218,"l08_fdb.go:64",#[⟨2,.data⟩],none⟩ ?_;refine kK 4 ⟨some 39,.load 222 (.tmp 4),222,"l08_fdb.go:64",#[],none⟩ ?_;refine kR 5 ⟨none,.call ⟨.builtin .delete,#[.tmp 38,.tmp 39],#[218,222]⟩,0,"l08_fdb.go:64",#[⟨3,.data⟩,⟨4,.data⟩],none⟩ (fun K hK => ?_);go_simp;refine hK.out _ _ (by first | exact hS0 | exact hS1) (fun hHeld => ?_);clear hK K;(try simp only [Act.put,lA,lB,lC]);refine wpAnyH_done (by kernel_rfl) ?_ _;clear hS0 hS1 hr5 hHeld;go_wp2
     go_roundw
     case rel=>exact ⟨_,_,HS5.out⟩
     case measure=>rw [HS5.out.rg.left_eq,HLE.out]; omega
   ·have hfv:ageE v=some v:=by unfold ageE; rw [hvs]; rfl
    rw [hvs] at hen;clear hvs;have b4:=zP w3 (.cells #[.int .i64 y.1,.int .i64 y.2.1,.int .i64 y.2.2] 222) (.cells #[.int .i64 v.t,.int .i64 v.m,.int .i64 v.p,.int .i64 v.a,.bool true] 131);have q1:=za st3.1 b4;have q2:=zh st3.2.1 b4;have q3:=zc st3.2.2 b4;have q4:=hrg3.below b4;have kk:=za (zw w3 (.cells #[.int .i64 y.1,.int .i64 y.2.1,.int .i64 y.2.2] 222)) (zm _ (.cells #[.int .i64 v.t,.int .i64 v.m,.int .i64 v.p,.int .i64 v.a,.bool true] 131));have ke:=zw (w3.alloc (.cells #[.int .i64 y.1,.int .i64 y.2.1,.int .i64 y.2.2] 222)) (.cells #[.int .i64 v.t,.int .i64 v.m,.int .i64 v.p,.int .i64 v.a,.bool true] 131);rw [show (w3.alloc (.cells #[.int .i64 y.1,.int .i64 y.2.1,.int .i64 y.2.2] 222)).heap.size=w3.heap.size+1 by simp] at ke;have hfe:midF ageE (zao l) left=midF ageE (zao l) (upd left y false):=by rw [← HN.out,hfv,zd3 hgy]
    rw [hfe] at q4;have HS4:=hide (show RSt w w1.heap.size ((w3.alloc (.cells #[.int .i64 y.1,.int .i64 y.2.1,.int .i64 y.2.2] 222)).alloc (.cells #[.int .i64 v.t,.int .i64 v.m,.int .i64 v.p,.int .i64 v.a,.bool true] 131)) p bm aq cq l ageE (upd left y false) cnt3 from ⟨q4,q1,q2,q3⟩);clear q1 q2 q3 q4 kk ke hrg3 st3 hfe b4;go_wp2
    go_roundw
    case rel=>exact ⟨_,_,HS4.out⟩
    case measure=>rw [HS4.out.rg.left_eq,HLE.out]; exact hlt3

theorem zfl (ao:Option Addr) (n cap:Nat) (l:List FE) (p0:Int) (w:World) (h:GRow fentF w ao n cap l) (hn:n≤16777216) (hR:∀x∈l,x.Rng) :
  Calls Tryz.prog 167 #[.slice ao n cap,.int .i64 p0] w fun r w'=>∃ao' cap',r=.returned (.slice ao' (zZ l p0).length cap')∧w'.ownsRow w.heap.size 131 5 (.slice ao' (zZ l p0).length cap') (zZ l p0).length (fentF.all (zZ l p0))∧GRow fentF w' ao' (zZ l p0).length cap' (zZ l p0)∧Below w.heap.size w w':=by
 rw [zjk l p0];go_enter Tryz.func167,Tryz.ntmps167;go_wp2_with fail
 refine (zeB ao n cap l _ h hn hR).mono ?_;rintro r w1 ⟨p,bm,rfl,tab,hb1⟩;obtain ⟨aq,cq,hbox,hown⟩:=tab.box;obtain ⟨⟨pq0,pq1⟩,-⟩:=zau hbox;have hmap:=tab.map;have HLP:=hide tab.lp;have HLB:=hide tab.lb;have HOK:=hide tab.oks;have HFW:=hide tab.few;have hs1:=hb1.size;clear tab;go_wp2_with (first | (at_range; refine zcD _ rfl _ rfl bm 16777216 (zao l) rfl hmap ?_; intro w2 cnt2 hrg2 hb2 hs2) | go_in)
 go_frame
 have st2:RSt w w1.heap.size w2 p bm aq cq l (za1 p0) (fun k=>(zao l k).isSome) cnt2:=⟨by rw [zf1]; exact hrg2,za hbox hb2,zh hown hb2,zc hb1 hb2⟩;have HS2:=hide st2;clear st2 hrg2 hb2 hown hbox hmap pq0 pq1 hb1
 go_loopw [15] (fun _ wr=>∃left cnt,RSt w w1.heap.size wr p bm aq cq l (za1 p0) left cnt) (fun _ wr=>wr.rangeLeft bm w1.heap.size)
 case atStart=>exact ⟨_,_,HS2.out⟩
 case round =>
  obtain ⟨left,cnt,st⟩:=hrel;clear HS2;have hrg:=st.rg;have HST:=hide st;go_wp2_with (first | (at_next; refine zcZ _ rfl _ rfl bm w1.heap.size 16777216 _ left cnt rfl hrg ?_ ?_) | go_in)
  ·intro hl0;have hT:Tab wr w.heap.size p bm (zaq l) (fun k=>(zao l k).bind (za1 p0)):=st.tab hl0 HLP.out HLB.out HOK.out HFW.out;have HB:=hide st.bel;clear hrg st HST;(go_wp2_with fail);refine (zhk _ _ p bm _ _ hT).mono ?_;rintro r w9 ⟨ao9,cap9,rfl,ho9,hr9,hb9⟩;rw [zdX (zde l) (za1 p0)] at ho9 hr9;have HO:=hide (zF ho9 (base':=w.heap.size) HB.out.size);have HR:=hide hr9;have HB9:=hide (zc HB.out hb9);clear ho9 hr9 hb9 hT;go_wp2;go_ret;exact ⟨_,_,(by rw [zdX (zde l) (za1 p0)]; rfl),HO.out,HR.out,HB9.out⟩
  ·intro s hs;rcases s with ⟨y,v,w3,cnt3⟩
   obtain ⟨hyk,hly,hgy,hrg3,hlt3,hg3,hen⟩:=hs;dsimp only at hyk hly hgy hrg3 hlt3 hg3 hen ⊢;have hv:=hR v (zhc (zix hly hgy));have HN:=hide (zhl hly hgy);have hls:upd left y false y=false:=zat _ _ _;have st3:=st.turned hg3 (st.rg.iter) (by omega);have HLE:=hide hrg.left_eq;clear hrg st HST;cases hvs:v.s
   ·cases hvp:(v.p == p0)
    ·have hfv:za1 p0 v=some v:=by unfold za1; rw [hvs]; simp at hvp; simp [hvp]
     rw [hvs] at hen;clear hvs;have b4:=zP w3 (.cells #[.int .i64 y.1,.int .i64 y.2.1,.int .i64 y.2.2] 222) (.cells #[.int .i64 v.t,.int .i64 v.m,.int .i64 v.p,.int .i64 v.a,.bool false] 131);have q1:=za st3.1 b4;have q2:=zh st3.2.1 b4;have q3:=zc st3.2.2 b4;have q4:=hrg3.below b4;have kk:=za (zw w3 (.cells #[.int .i64 y.1,.int .i64 y.2.1,.int .i64 y.2.2] 222)) (zm _ (.cells #[.int .i64 v.t,.int .i64 v.m,.int .i64 v.p,.int .i64 v.a,.bool false] 131));have ke:=zw (w3.alloc (.cells #[.int .i64 y.1,.int .i64 y.2.1,.int .i64 y.2.2] 222)) (.cells #[.int .i64 v.t,.int .i64 v.m,.int .i64 v.p,.int .i64 v.a,.bool false] 131);rw [show (w3.alloc (.cells #[.int .i64 y.1,.int .i64 y.2.1,.int .i64 y.2.2] 222)).heap.size=w3.heap.size+1 by simp] at ke;have hfe:midF (za1 p0) (zao l) left=midF (za1 p0) (zao l) (upd left y false):=by rw [← HN.out,hfv,zd3 hgy]
     rw [hfe] at q4;have HS4:=hide (show RSt w w1.heap.size ((w3.alloc (.cells #[.int .i64 y.1,.int .i64 y.2.1,.int .i64 y.2.2] 222)).alloc (.cells #[.int .i64 v.t,.int .i64 v.m,.int .i64 v.p,.int .i64 v.a,.bool false] 131)) p bm aq cq l (za1 p0) (upd left y false) cnt3 from ⟨q4,q1,q2,q3⟩);clear q1 q2 q3 q4 kk ke hrg3 st3 hfe b4;go_wp2
     go_roundw
     case rel=>exact ⟨_,_,HS4.out⟩
     case measure=>rw [HS4.out.rg.left_eq,HLE.out]; exact hlt3
    ·have hfv:za1 p0 v=none:=by unfold za1; rw [hvs]; simp at hvp; simp [hvp]
     rw [hvs] at hen;clear hvs;have b4:=zP w3 (.cells #[.int .i64 y.1,.int .i64 y.2.1,.int .i64 y.2.2] 222) (.cells #[.int .i64 v.t,.int .i64 v.m,.int .i64 v.p,.int .i64 v.a,.bool false] 131);have q1:=za st3.1 b4;have q2:=zh st3.2.1 b4;have q3:=zc st3.2.2 b4;have q4:=hrg3.below b4;have kk:=za (zw w3 (.cells #[.int .i64 y.1,.int .i64 y.2.1,.int .i64 y.2.2] 222)) (zm _ (.cells #[.int .i64 v.t,.int .i64 v.m,.int .i64 v.p,.int .i64 v.a,.bool false] 131));have ke:=zw (w3.alloc (.cells #[.int .i64 y.1,.int .i64 y.2.1,.int .i64 y.2.2] 222)) (.cells #[.int .i64 v.t,.int .i64 v.m,.int .i64 v.p,.int .i64 v.a,.bool false] 131);rw [show (w3.alloc (.cells #[.int .i64 y.1,.int .i64 y.2.1,.int .i64 y.2.2] 222)).heap.size=w3.heap.size+1 by simp] at ke;(go_wp2_with fail);clear hen;generalize hw4:(w3.alloc (.cells #[.int .i64 y.1,.int .i64 y.2.1,.int .i64 y.2.2] 222)).alloc (.cells #[.int .i64 v.t,.int .i64 v.m,.int .i64 v.p,.int .i64 v.a,.bool false] 131)=w4 at *;obtain ⟨w5,cnt5,hr5,hrg5,hle5,hg5,-⟩:=Ranging.drop (w:=w4.drew) (q4.kept rfl rfl) hyk hls 0;have hr5:(Builtin.delete_ #[218,222] 0 #[.map (some bm),.agg #[.int .i64 y.1,.int .i64 y.2.1,.int .i64 y.2.2]]).run Tryz.prog w4.drew=.ok (.tuple #[]) w5:=hr5;have hg5:w4.grownBy w5 (some bm):=⟨hg5.os,hg5.tape,hg5.output,hg5.size,hg5.block⟩;have hfe:upd (midF (za1 p0) (zao l) left) y none=midF (za1 p0) (zao l) (upd left y false):=by rw [← HN.out,hfv]
     rw [hfe] at hrg5;have hk4:=q4.mapk;have n5:=zbV hk4 q1;have m5:=zbV hk4 kk;have q5:=ze q1 hg5 (fun i hi=>by cases hi; exact n5);have kk5:=ze kk hg5 (fun i hi=>by cases hi; exact m5);have HS5:=hide (show RSt w w1.heap.size w5 p bm aq cq l (za1 p0) (upd left y false) cnt5 from ⟨hrg5,q5,zdY q2 hg5 hk4,q3.grown hg5 q3.size (fun i hi=>by cases hi; exact HLB.out)⟩);have hS0:w4.drew.cell? ⟨p,1,none⟩=some (.map (some bm))∧_:=⟨(zau (w:=w4.drew) q1).1.2,(zaC (w:=w4.drew) kk).1⟩;have hS1:w5.cell? ⟨p,1,none⟩=some (.map (some bm))∧_:=⟨(zau q5).1.2,(zaC kk5).1⟩;clear q1 kk ke q2 q3 q4 hrg3 st3 hfe b4 hk4 n5 m5 q5 kk5 hrg5;refine wp_region_held_drew (S:=(fun W=>W.cell? ⟨p,1,none⟩=some (.map (some bm))∧(W.cell? ⟨w3.heap.size,0,none⟩=some (.int .i64 y.1)∧W.cell? ⟨w3.heap.size,1,none⟩=some (.int .i64 y.2.1)∧W.cell? ⟨w3.heap.size,2,none⟩=some (.int .i64 y.2.2)))) (by kernel_rfl) (by first | exact hS0 | exact hS1) (fun hHeld => ?_);refine kK 0 ⟨some 29,.move (.tmp 5),215,"l08_fdb.go:77",#[],none⟩ ?_;refine kK 1 ⟨some 30,.nilCheck (.tmp 29),0,"l08_fdb.go:77",#[⟨0,.data⟩],none⟩ ?_;refine kK 2 ⟨some 31,.fieldAddr 220 (.tmp 30) 1,0,"l08_fdb.go:77",#[⟨1,.data⟩],none⟩ ?_;refine kK 3 ⟨some 32,.load 218 (.tmp 31),218,"l08_fdb.go:77",#[⟨2,.data⟩],none⟩ ?_;refine kK 4 ⟨some 33,.load 222 (.tmp 6),222,"l08_fdb.go:77",#[],none⟩ ?_;refine kR 5 ⟨none,.call ⟨.builtin .delete,#[.tmp 32,.tmp 33],#[218,222]⟩,0,"l08_fdb.go:77",#[⟨3,.data⟩,⟨4,.data⟩],none⟩ (fun K hK => ?_);go_simp;refine hK.out _ _ (by first | exact hS0 | exact hS1) (fun hHeld => ?_);clear hK K;(try simp only [Act.put,lA,lB,lC]);refine wpAnyH_done (by kernel_rfl) ?_ _;clear hS0 hS1 hr5 hHeld;go_wp2
     go_roundw
     case rel=>exact ⟨_,_,HS5.out⟩
     case measure=>rw [HS5.out.rg.left_eq,HLE.out]; omega
   ·have hfv:za1 p0 v=some v:=by unfold za1; rw [hvs]; rfl
    rw [hvs] at hen;clear hvs;have b4:=zP w3 (.cells #[.int .i64 y.1,.int .i64 y.2.1,.int .i64 y.2.2] 222) (.cells #[.int .i64 v.t,.int .i64 v.m,.int .i64 v.p,.int .i64 v.a,.bool true] 131);have q1:=za st3.1 b4;have q2:=zh st3.2.1 b4;have q3:=zc st3.2.2 b4;have q4:=hrg3.below b4;have kk:=za (zw w3 (.cells #[.int .i64 y.1,.int .i64 y.2.1,.int .i64 y.2.2] 222)) (zm _ (.cells #[.int .i64 v.t,.int .i64 v.m,.int .i64 v.p,.int .i64 v.a,.bool true] 131));have ke:=zw (w3.alloc (.cells #[.int .i64 y.1,.int .i64 y.2.1,.int .i64 y.2.2] 222)) (.cells #[.int .i64 v.t,.int .i64 v.m,.int .i64 v.p,.int .i64 v.a,.bool true] 131);rw [show (w3.alloc (.cells #[.int .i64 y.1,.int .i64 y.2.1,.int .i64 y.2.2] 222)).heap.size=w3.heap.size+1 by simp] at ke;have hfe:midF (za1 p0) (zao l) left=midF (za1 p0) (zao l) (upd left y false):=by rw [← HN.out,hfv,zd3 hgy]
    rw [hfe] at q4;have HS4:=hide (show RSt w w1.heap.size ((w3.alloc (.cells #[.int .i64 y.1,.int .i64 y.2.1,.int .i64 y.2.2] 222)).alloc (.cells #[.int .i64 v.t,.int .i64 v.m,.int .i64 v.p,.int .i64 v.a,.bool true] 131)) p bm aq cq l (za1 p0) (upd left y false) cnt3 from ⟨q4,q1,q2,q3⟩);clear q1 q2 q3 q4 kk ke hrg3 st3 hfe b4;go_wp2
    go_roundw
    case rel=>exact ⟨_,_,HS4.out⟩
    case measure=>rw [HS4.out.rg.left_eq,HLE.out]; exact hlt3

end Go.Proofs.YtkoekkjfcaiagaaGreat
