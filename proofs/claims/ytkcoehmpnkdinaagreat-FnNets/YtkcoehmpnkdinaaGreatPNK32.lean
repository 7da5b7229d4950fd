/-
  Packed: MapWalk FdbList FdbImplR BrInner3.
-/
import Derived.Test.YtkcoehmpnkdinaaGreatPNFdbTable
namespace Go.Proofs.YtkcoehmpnkdinaaGreat
set_option maxRecDepth 100000
set_option maxHeartbeats 16000000
open Go.RowKit

theorem ze6 (w:World) {ops:Array Oper} {rest:List Oper} {o:Oper} {a:Act} {Q:Exit→Act→World→Prop} (hg:o.guard=none) (m:Operand) (hop:o.op=Op.range 178 m) (b n:Nat) (g:FK→Option FE)
  (hm:a.eval m=.map (some b)) (h:MapIs mE w b n g)
  (hK:∀w' cnt,Ranging mE w' b w.heap.size n g (fun k=>(g k).isSome) cnt→Below w.heap.size w w'→w'.heap.size=w.heap.size+1→wpList Tryz.prog ops Q rest (a.put o.dst (.pointer (some ⟨w.heap.size,0,none⟩))) w') :
  wpList Tryz.prog ops Q (o::rest) a w:=by
 refine wpList_plain hg fun K' hK' => ?_
 obtain ⟨w',cnt,hrun,r1,r2,r3⟩:=h.range;have hrun:(Instr.range 178 (.map (some b))).run Tryz.prog w=.ok (.pointer (some ⟨w.heap.size,0,none⟩)) w':=hrun;unfold Oper.wp
 simp [execOp,hop,hm,hrun,Result.andThen]
 exact hK' _ _ (hK w' cnt r1 r2 r3)

structure NxS where
 y:FK
 v:FE
 w:World
 cnt:Nat

structure NxOk (w:World) (b r n:Nat) (g:FK→Option FE) (left:FK→Bool) (cnt:Nat) (s:NxS):Prop where
 ok:FKok s.y
 lf:left s.y=true
 gt:g s.y=some s.v
 rg:Ranging mE s.w b r n g (upd left s.y false) s.cnt
 lt:s.cnt < cnt
 gr:w.grownBy s.w (some r)
 en:(Instr.entry (.pointer (some ⟨r,0,none⟩))).run Tryz.prog s.w=.ok (.tuple #[.agg #[.int .i64 s.y.1,.int .i64 s.y.2.1,.int .i64 s.y.2.2],.agg #[.int .i64 s.v.t,.int .i64 s.v.m,.int .i64 s.v.p,.int .i64 s.v.a,.bool s.v.s]]) s.w

def zkI (left:FK→Bool):Prop:=∀k,left k=false

theorem zfo (w:World) {ops:Array Oper} {rest:List Oper} {o:Oper} {a:Act} {Q:Exit→Act→World→Prop} (hg:o.guard=none) (it:Operand) (hop:o.op=Op.next it false) (b r n:Nat) (g:FK→Option FE) (left:FK→Bool) (cnt:Nat)
  (hit:a.eval it=.pointer (some ⟨r,0,none⟩)) (h:Ranging mE w b r n g left cnt)
  (hDone:zkI left→wpList Tryz.prog ops Q rest (a.put o.dst (.tuple #[.bool false])) w)
  (hMore:∀s:NxS,NxOk w b r n g left cnt s →
   wpList Tryz.prog ops Q rest (a.put o.dst (.tuple #[.bool true,.agg #[.int .i64 s.y.1,.int .i64 s.y.2.1,.int .i64 s.y.2.2],.agg #[.int .i64 s.v.t,.int .i64 s.v.m,.int .i64 s.v.p,.int .i64 s.v.a,.bool s.v.s]])) s.w) :
  wpList Tryz.prog ops Q (o::rest) a w:=by
 refine wpList_plain hg fun K' hK' => ?_
 unfold Oper.wp;rcases h.next o.type with ⟨_,hl,hrun⟩ | ⟨y,v,w',cnt',h1,h2,h3,hrun,h4,h5,h6,h7,h8⟩
 ·simp [execOp,hop,hit,hrun,Result.andThen]
  exact hK' _ _ (hDone hl)
 ·simp [execOp,hop,hit,hrun,Result.andThen]
  exact hK' _ _ (hMore ⟨y,v,w',cnt'⟩ ⟨h1,h2,h3,h4,h5,h6,h8⟩)

def midF (f:FE→Option FE) (g:FK→Option FE) (left:FK→Bool):FK→Option FE:=fun k=>if left k=true then g k else (g k).bind f

theorem zjF (f:FE→Option FE) (g:FK→Option FE):midF f g (fun k=>(g k).isSome)=g:=by
 funext k
 unfold midF;cases h:g k <;> simp [h]

theorem zlm (f:FE→Option FE) (g:FK→Option FE) {left:FK→Bool} (h:∀k,left k=false):midF f g left=fun k=>(g k).bind f:=by
 funext k
 unfold midF;rw [h k]
 rfl

theorem zk5 {f:FE→Option FE} {g:FK→Option FE} {left:FK→Bool} {y:FK} {v:FE} (h:left y=true) (hv:midF f g left y=some v):g y=some v:=by
 unfold midF at hv;rw [if_pos h] at hv;exact hv

theorem zkG {f:FE→Option FE} {g:FK→Option FE} {left:FK→Bool} {y:FK} {v:FE} (h:left y=true) (hv:midF f g left y=some v):upd (midF f g left) y (f v)=midF f g (upd left y false):=by
 have hg:=zk5 h hv
 funext k
 by_cases e:k=y
 ·subst e;rw [zav];unfold midF;rw [zav,hg]
  rfl
 ·rw [zai _ _ e];unfold midF;rw [zai left _ e]

theorem zkn {l:List FE} {k:FK} {e:FE} (h:zaO l k=some e):e∈l:=by
 by_cases hk:k∈zaB l
 ·obtain ⟨i,hi⟩:=List.getElem?_of_mem hk;obtain ⟨e',he',hk'⟩:=zli hi;rw [h] at hk';cases hk';exact List.mem_of_getElem? he'
 ·rw [zjm l hk] at h;cases h

theorem zkF {N:Nat} (w:World) (base p bm:Nat) (ks:List FK) (g:FK→Option FE) (h:TabN N w base p bm ks g) :
  Calls Tryz.prog 140 #[.pointer (some ⟨p,0,none⟩)] w fun r w'=>∃ao' cap',r=.returned (.slice ao' (ks.filterMap g).length cap')∧w'.ownsRow w.heap.size 95 5 (.slice ao' (ks.filterMap g).length cap') (ks.filterMap g).length (fentF.all (ks.filterMap g))∧GRow fentF w' ao' (ks.filterMap g).length cap' (ks.filterMap g)∧Below w.heap.size w w':=by
 obtain ⟨ao,cap,hbox,hown⟩:=h.box;have hrow:=zD (F:=fkF) hown;have hmap:=h.map;have hoks:=h.oks;have hfew:=h.few;have htop:=Nat.le_trans hrow.le hrow.top;unfold maxLen at htop;obtain ⟨⟨p0,p1⟩,-⟩:=zG hbox;clear h hown;go_enter Tryz.func140,Tryz.ntmps140;go_wp2
 go_loopw [3,13] (fun o i wr=>∃(k:Nat) (zs:List FE) (az:Option Addr) (cz nz:Nat),k≤ks.length∧i=.int .i64 k∧o=.slice az nz cz∧zs.length=nz∧nz≤k∧wr.ownsRow w.heap.size 95 5 (.slice az nz cz) nz (fentF.all zs)∧zs++(ks.drop k).filterMap g=ks.filterMap g∧Below w.heap.size w wr) (fun _ i _=>ks.length - (intOf i).toNat)
 case atStart=>exact ⟨0,[],none,0,0,Nat.zero_le _,rfl,rfl,rfl,Nat.zero_le _,World.ownsRow_nil _ _ _ _,by simp,Below.refl _ _⟩
 case round =>
  obtain ⟨k,zs,az,cz,nz,hk,rfl,rfl,hzs,hnz,how,hz,hb⟩:=hrel;by_cases hlt:k < ks.length
  ·obtain ⟨y,b,off,hy,rfl,a0,a1,a2⟩:=fk_at (hrow.below hb) k hlt;have hyk:=hoks y (List.mem_of_getElem? hy);have hdr:ks.drop k=y::ks.drop (k+1):=by
    obtain ⟨h1,rfl⟩:=List.getElem?_eq_some_iff.1 hy;exact List.drop_eq_getElem_cons h1
   have hpx:=za hbox hb;have hmap:=hmap.kept hb;clear hy;cases hgy:g y with
   | some e =>
    have hS:∀W,Below (wr.alloc (.cells #[.int .i64 y.1,.int .i64 y.2.1,.int .i64 y.2.2] 182)).heap.size (wr.alloc (.cells #[.int .i64 y.1,.int .i64 y.2.1,.int .i64 y.2.2] 182)) W→(W.cell? ⟨p,1,none⟩=some (.map (some bm))∧(W.cell? ⟨wr.heap.size,0,none⟩=some (.int .i64 y.1)∧W.cell? ⟨wr.heap.size,1,none⟩=some (.int .i64 y.2.1)∧W.cell? ⟨wr.heap.size,2,none⟩=some (.int .i64 y.2.2))∧(Instr.lookup 178 (.map (some bm)) (.agg #[.int .i64 y.1,.int .i64 y.2.1,.int .i64 y.2.2]) true).run Tryz.prog W=.ok (.tuple #[.agg #[.int .i64 e.t,.int .i64 e.m,.int .i64 e.p,.int .i64 e.a,.bool e.s],.bool true]) W):=by
     intro W hW;have hW1:Below wr.heap.size wr W:=zc (zg wr (.cells #[.int .i64 y.1,.int .i64 y.2.1,.int .i64 y.2.2] 182)) hW;refine ⟨(zG (za hpx hW1)).1.2,(zaZ (za (zt wr (.cells #[.int .i64 y.1,.int .i64 y.2.1,.int .i64 y.2.2] 182)) hW)).1, ?_⟩
     have:=(hmap.kept hW1).look true hyk
     rw [hgy] at this;exact this
    have HSS:=hide hS;clear hS;(go_wp2_with fail);refine wp_region_held_drew (S:=(fun W=>zcc W p 1 (.map (some bm))∧(zcc W wr.heap.size 0 (.int .i64 y.1)∧zcc W wr.heap.size 1 (.int .i64 y.2.1)∧zcc W wr.heap.size 2 (.int .i64 y.2.2))∧(Instr.lookup 178 (.map (some bm)) (.agg #[.int .i64 y.1,.int .i64 y.2.1,.int .i64 y.2.2]) true).run Tryz.prog W=.ok (.tuple #[.agg #[.int .i64 e.t,.int .i64 e.m,.int .i64 e.p,.int .i64 e.a,.bool e.s],.bool true]) W)) (by kernel_rfl) (by first | exact HSS.out _ (zr (Below.refl _ _)) | exact HSS.out _ (zr (zg _ _))) (fun hHeld => ?_);refine kK 0 ?_;refine kK 1 ?_;refine kK 2 ?_;refine kK 3 ?_;refine kK 4 ?_;refine kK 5 ?_;refine kK 6 ?_;refine kK 7 ?_;refine kK 8 ?_;refine kR 9 fun K hK => ?_
    go_simp;refine kO hK (by first | exact HSS.out _ (zr (Below.refl _ _)) | exact HSS.out _ (zr (zg _ _))) fun hHeld => ?_
    clear hK K;refine kR 10 fun K hK => ?_
    go_simp;refine kO hK (by first | exact HSS.out _ (zr (Below.refl _ _)) | exact HSS.out _ (zr (zg _ _))) fun hHeld => ?_
    clear hK K;refine kK 11 ?_;refine wpAnyH_done (by kernel_rfl) ?_ _;have o2:(((wr.alloc (.cells #[.int .i64 y.1,.int .i64 y.2.1,.int .i64 y.2.2] 182)).alloc (.cells #[.int .i64 e.t,.int .i64 e.m,.int .i64 e.p,.int .i64 e.a,.bool e.s] 95)).drew).ownsRow w.heap.size 95 5 (.slice az nz cz) nz (fentF.all zs):=zl how (zr (zb4 (zg wr (.cells #[.int .i64 y.1,.int .i64 y.2.1,.int .i64 y.2.2] 182)) (.cells #[.int .i64 e.t,.int .i64 e.m,.int .i64 e.p,.int .i64 e.a,.bool e.s] 95)));have b2:Below w.heap.size w (((wr.alloc (.cells #[.int .i64 y.1,.int .i64 y.2.1,.int .i64 y.2.2] 182)).alloc (.cells #[.int .i64 e.t,.int .i64 e.m,.int .i64 e.p,.int .i64 e.a,.bool e.s] 95)).drew):=zc hb (zr (zb4 (zg wr (.cells #[.int .i64 y.1,.int .i64 y.2.1,.int .i64 y.2.2] 182)) (.cells #[.int .i64 e.t,.int .i64 e.m,.int .i64 e.p,.int .i64 e.a,.bool e.s] 95)));have x2:(((wr.alloc (.cells #[.int .i64 y.1,.int .i64 y.2.1,.int .i64 y.2.2] 182)).alloc (.cells #[.int .i64 e.t,.int .i64 e.m,.int .i64 e.p,.int .i64 e.a,.bool e.s] 95)).drew).heap[wr.heap.size+1]? = some (.cells #[.int .i64 e.t,.int .i64 e.m,.int .i64 e.p,.int .i64 e.a,.bool e.s] 95):=by
     have:=zt (wr.alloc (.cells #[.int .i64 y.1,.int .i64 y.2.1,.int .i64 y.2.2] 182)) (.cells #[.int .i64 e.t,.int .i64 e.m,.int .i64 e.p,.int .i64 e.a,.bool e.s] 95)
     rw [show (wr.alloc (.cells #[.int .i64 y.1,.int .i64 y.2.1,.int .i64 y.2.2] 182)).heap.size=wr.heap.size+1 by simp] at this;exact this
    clear HSS hHeld how hb hpx hmap;generalize hw2:((wr.alloc (.cells #[.int .i64 y.1,.int .i64 y.2.1,.int .i64 y.2.2] 182)).alloc (.cells #[.int .i64 e.t,.int .i64 e.m,.int .i64 e.p,.int .i64 e.a,.bool e.s] 95)).drew=w2 at *;clear hw2;obtain ⟨⟨x0,x1,x3,x4,x5⟩,-⟩:=zx x2;have o3:=zl o2 (zg w2 (.cells #[.int .i64 e.t,.int .i64 e.m,.int .i64 e.p,.int .i64 e.a,.bool e.s] 95));have HBR:=hide (zc b2 (zg w2 (.cells #[.int .i64 e.t,.int .i64 e.m,.int .i64 e.p,.int .i64 e.a,.bool e.s] 95)));have hbase9:w.heap.size≤(w2.alloc (.cells #[.int .i64 e.t,.int .i64 e.m,.int .i64 e.p,.int .i64 e.a,.bool e.s] 95)).heap.size:=HBR.out.size;have hl1:(zs++[e]).length=nz+1:=by simp [hzs]
    have HL:=hide hl1;have HQ:=hide (show zs++[e]++(ks.drop (k+1)).filterMap g=ks.filterMap g by rw [← hz,hdr,List.filterMap_cons,hgy,List.append_assoc]; rfl);clear o2 b2 hz hl1 x2;go_wp2_with (at_builtin; refine zah _ rfl _ _ rfl w.heap.size _ nz zs rfl o3 _ 1 1 [e] rfl (zax fentF _ e _ _ rfl) (by omega) hbase9 ?_)
    intro ao9 cap9 w9 how9 hr9 hgr9 hb9;have HB9:=hide (HBR.out.trans hb9);have HO:=hide how9;clear how9 hr9 hgr9 hb9 o3 HBR x0 x1 x3 x4 x5;go_wp2
    go_roundw
    case rel=>exact ⟨k+1,zs++[e],ao9,cap9,nz+1,by omega,by go_num,rfl,HL.out,by omega,HO.out,HQ.out,HB9.out⟩
    case measure=>simp [intOf]; omega
   | none =>
    have hS:∀W,Below (wr.alloc (.cells #[.int .i64 y.1,.int .i64 y.2.1,.int .i64 y.2.2] 182)).heap.size (wr.alloc (.cells #[.int .i64 y.1,.int .i64 y.2.1,.int .i64 y.2.2] 182)) W→(W.cell? ⟨p,1,none⟩=some (.map (some bm))∧(W.cell? ⟨wr.heap.size,0,none⟩=some (.int .i64 y.1)∧W.cell? ⟨wr.heap.size,1,none⟩=some (.int .i64 y.2.1)∧W.cell? ⟨wr.heap.size,2,none⟩=some (.int .i64 y.2.2))∧(Instr.lookup 178 (.map (some bm)) (.agg #[.int .i64 y.1,.int .i64 y.2.1,.int .i64 y.2.2]) true).run Tryz.prog W=.ok (.tuple #[.agg #[.int .i64 0,.int .i64 0,.int .i64 0,.int .i64 0,.bool false],.bool false]) W):=by
     intro W hW;have hW1:Below wr.heap.size wr W:=zc (zg wr (.cells #[.int .i64 y.1,.int .i64 y.2.1,.int .i64 y.2.2] 182)) hW;refine ⟨(zG (za hpx hW1)).1.2,(zaZ (za (zt wr (.cells #[.int .i64 y.1,.int .i64 y.2.1,.int .i64 y.2.2] 182)) hW)).1, ?_⟩
     have:=(hmap.kept hW1).look true hyk
     rw [hgy] at this;exact this
    have HSS:=hide hS;clear hS;(go_wp2_with fail);refine wp_region_held_drew (S:=(fun W=>zcc W p 1 (.map (some bm))∧(zcc W wr.heap.size 0 (.int .i64 y.1)∧zcc W wr.heap.size 1 (.int .i64 y.2.1)∧zcc W wr.heap.size 2 (.int .i64 y.2.2))∧(Instr.lookup 178 (.map (some bm)) (.agg #[.int .i64 y.1,.int .i64 y.2.1,.int .i64 y.2.2]) true).run Tryz.prog W=.ok (.tuple #[.agg #[.int .i64 0,.int .i64 0,.int .i64 0,.int .i64 0,.bool false],.bool false]) W)) (by kernel_rfl) (by first | exact HSS.out _ (zr (Below.refl _ _)) | exact HSS.out _ (zr (zg _ _))) (fun hHeld => ?_);refine kK 0 ?_;refine kK 1 ?_;refine kK 2 ?_;refine kK 3 ?_;refine kK 4 ?_;refine kK 5 ?_;refine kK 6 ?_;refine kK 7 ?_;refine kK 8 ?_;refine kR 9 fun K hK => ?_
    go_simp;refine kO hK (by first | exact HSS.out _ (zr (Below.refl _ _)) | exact HSS.out _ (zr (zg _ _))) fun hHeld => ?_
    clear hK K;refine kR 10 fun K hK => ?_
    go_simp;refine kO hK (by first | exact HSS.out _ (zr (Below.refl _ _)) | exact HSS.out _ (zr (zg _ _))) fun hHeld => ?_
    clear hK K;refine kK 11 ?_;refine wpAnyH_done (by kernel_rfl) ?_ _;have o2:(((wr.alloc (.cells #[.int .i64 y.1,.int .i64 y.2.1,.int .i64 y.2.2] 182)).alloc (.cells #[.int .i64 0,.int .i64 0,.int .i64 0,.int .i64 0,.bool false] 95)).drew).ownsRow w.heap.size 95 5 (.slice az nz cz) nz (fentF.all zs):=zl how (zr (zb4 (zg wr (.cells #[.int .i64 y.1,.int .i64 y.2.1,.int .i64 y.2.2] 182)) (.cells #[.int .i64 0,.int .i64 0,.int .i64 0,.int .i64 0,.bool false] 95)));have b2:Below w.heap.size w (((wr.alloc (.cells #[.int .i64 y.1,.int .i64 y.2.1,.int .i64 y.2.2] 182)).alloc (.cells #[.int .i64 0,.int .i64 0,.int .i64 0,.int .i64 0,.bool false] 95)).drew):=zc hb (zr (zb4 (zg wr (.cells #[.int .i64 y.1,.int .i64 y.2.1,.int .i64 y.2.2] 182)) (.cells #[.int .i64 0,.int .i64 0,.int .i64 0,.int .i64 0,.bool false] 95)));have x2:(((wr.alloc (.cells #[.int .i64 y.1,.int .i64 y.2.1,.int .i64 y.2.2] 182)).alloc (.cells #[.int .i64 0,.int .i64 0,.int .i64 0,.int .i64 0,.bool false] 95)).drew).heap[wr.heap.size+1]? = some (.cells #[.int .i64 0,.int .i64 0,.int .i64 0,.int .i64 0,.bool false] 95):=by
     have:=zt (wr.alloc (.cells #[.int .i64 y.1,.int .i64 y.2.1,.int .i64 y.2.2] 182)) (.cells #[.int .i64 0,.int .i64 0,.int .i64 0,.int .i64 0,.bool false] 95)
     rw [show (wr.alloc (.cells #[.int .i64 y.1,.int .i64 y.2.1,.int .i64 y.2.2] 182)).heap.size=wr.heap.size+1 by simp] at this;exact this
    clear HSS hHeld how hb hpx hmap;generalize hw2:((wr.alloc (.cells #[.int .i64 y.1,.int .i64 y.2.1,.int .i64 y.2.2] 182)).alloc (.cells #[.int .i64 0,.int .i64 0,.int .i64 0,.int .i64 0,.bool false] 95)).drew=w2 at *;clear hw2;have HQ:=hide (show zs++(ks.drop (k+1)).filterMap g=ks.filterMap g by rw [← hz,hdr,List.filterMap_cons,hgy]);have HO:=hide o2;have HB9:=hide b2;clear o2 b2 hz x2;go_wp2
    go_roundw
    case rel=>exact ⟨k+1,zs,az,cz,nz,by omega,by go_num,rfl,hzs,by omega,HO.out,HQ.out,HB9.out⟩
    case measure=>simp [intOf]; omega
  ·have hkn:k=ks.length:=by omega
   subst hkn;rw [List.drop_eq_nil_of_le (Nat.le_refl _)] at hz;have hz:zs=ks.filterMap g:=by simpa using hz
   have hl:nz=(ks.filterMap g).length:=by rw [← hz]; exact hzs.symm
   rw [hz] at how;subst hl;have HO:=hide how;have HR:=hide (zD how);have HB:=hide hb;clear how hb;go_wp2;go_ret;exact ⟨_,_,rfl,HO.out,HR.out,HB.out⟩

theorem zf3 {w:World} {b i:Nat} {cs:Array Value} {T:TypeId} (hk:∀cs T,w.heap[b]? ≠ some (.cells cs T)) (h:w.heap[i]? = some (.cells cs T)):b≠i:=by
 intro e;subst e;exact hk _ _ h

theorem zib {w w':World} {base k:Nat} {e:TypeId} {v:Value} {n:Nat} {xs:List Value} (h:w.ownsRow base e k v n xs) {b:Nat} (hg:w.grownBy w' (some b)) (hk:∀cs T,w.heap[b]? ≠ some (.cells cs T)):w'.ownsRow base e k v n xs:=by
 refine zB h hg ?_;intro i hi e1;subst e1;rcases h.2 with ⟨rfl,_⟩ | ⟨g,cap,cur,rfl,_,hh,_⟩
 ·cases hi
 ·cases hi;exact hk _ _ hh

theorem Ranging.iter {P:Program} {α β:Type} {M:MK P α β} {w:World} {b r n:Nat} {g:α→Option β} {left:α→Bool} {cnt:Nat} (h:Ranging M w b r n g left cnt):∀cs T,w.heap[r]? ≠ some (.cells cs T):=by
 obtain ⟨es,clock,since,seen,c0,hb,he,hr,-⟩:=h;intro cs T e;rw [hr] at e;cases e

theorem Ranging.mapk {P:Program} {α β:Type} {M:MK P α β} {w:World} {b r n:Nat} {g:α→Option β} {left:α→Bool} {cnt:Nat} (h:Ranging M w b r n g left cnt):∀cs T,w.heap[b]? ≠ some (.cells cs T):=by
 obtain ⟨es,clock,since,seen,c0,hb,-⟩:=h;intro cs T e;rw [hb] at e;cases e

structure RSt (w:World) (it:Nat) (wr:World) (p bm:Nat) (aq:Option Addr) (cq:Nat) (l:List FE) (f:FE→Option FE) (left:FK→Bool) (cnt:Nat):Prop where
 rg:Ranging mE wr bm it 16777216 (midF f (zaO l) left) left cnt
 box:wr.heap[p]? = some (.cells #[.slice aq (zaB l).length cq,.map (some bm)] 180)
 own:wr.ownsRow w.heap.size 182 3 (.slice aq (zaB l).length cq) (zaB l).length (fkF.all (zaB l))
 bel:Below w.heap.size w wr

theorem RSt.turned {w:World} {it:Nat} {wr w':World} {p bm:Nat} {aq:Option Addr} {cq:Nat} {l:List FE} {f:FE→Option FE} {left:FK→Bool} {cnt j:Nat} (h:RSt w it wr p bm aq cq l f left cnt) (hg:wr.grownBy w' (some j)) (hk:∀cs T,wr.heap[j]? ≠ some (.cells cs T)) (hj:w.heap.size≤j) :
  w'.heap[p]? = some (.cells #[.slice aq (zaB l).length cq,.map (some bm)] 180)∧w'.ownsRow w.heap.size 182 3 (.slice aq (zaB l).length cq) (zaB l).length (fkF.all (zaB l))∧Below w.heap.size w w' :=
 ⟨ze h.box hg (fun i hi=>by cases hi; exact zf3 hk h.box),zib h.own hg hk,h.bel.grown hg h.bel.size (fun i hi=>by cases hi; exact hj)⟩

theorem RSt.tab {w:World} {it:Nat} {wr:World} {p bm:Nat} {aq:Option Addr} {cq:Nat} {l:List FE} {f:FE→Option FE} {left:FK→Bool} {cnt:Nat} (h:RSt w it wr p bm aq cq l f left cnt) (hl:∀k,left k=false) (h1:w.heap.size≤p) (h2:w.heap.size≤bm) (h3:∀k∈zaB l,FKok k) (h4:(zaB l).length≤16777216) :
  Tab wr w.heap.size p bm (zaB l) (fun k=>(zaO l k).bind f) :=
 ⟨⟨aq,cq,h.box,h.own⟩,by have:=h.rg.is; rw [zlm f (zaO l) hl] at this; exact this,h1,h2,h3,h4⟩

def za5 (p:Int) (e:FE):Option FE:=if (e.s || (e.p != p))=true then some e else none

theorem zks (l:List FE) (p:Int):zY l p=l.filterMap (za5 p):=by
 induction l with
 | nil=>rfl
 | cons x r ih =>
  unfold zY at *;unfold za5 at *;rw [List.filter_cons,List.filterMap_cons,ih];cases (x.s || (x.p != p)) <;> rfl

theorem zfT (ao:Option Addr) (n cap:Nat) (l:List FE) (p0:Int) (w:World) (h:GRow fentF w ao n cap l) (hn:n≤16777216) (hR:∀x∈l,x.Rng) :
  Calls Tryz.prog 108 #[.slice ao n cap,.int .i64 p0] w fun r w'=>∃ao' cap',r=.returned (.slice ao' (zY l p0).length cap')∧w'.ownsRow w.heap.size 95 5 (.slice ao' (zY l p0).length cap') (zY l p0).length (fentF.all (zY l p0))∧GRow fentF w' ao' (zY l p0).length cap' (zY l p0)∧Below w.heap.size w w':=by
 rw [zks l p0];go_enter Tryz.func108,Tryz.ntmps108;go_wp2_with fail
 refine (zhO ao n cap l _ h hn hR).mono ?_;rintro r w1 ⟨p,bm,rfl,tab,hb1⟩;obtain ⟨aq,cq,hbox,hown⟩:=tab.box;obtain ⟨⟨pq0,pq1⟩,-⟩:=zG hbox;have hmap:=tab.map;have HLP:=hide tab.lp;have HLB:=hide tab.lb;have HOK:=hide tab.oks;have HFW:=hide tab.few;have hs1:=hb1.size;clear tab;go_wp2_with (first | (at_range; refine ze6 _ rfl _ rfl bm 16777216 (zaO l) rfl hmap ?_; intro w2 cnt2 hrg2 hb2 hs2) | go_in)
 go_frame
 have st2:RSt w w1.heap.size w2 p bm aq cq l (za5 p0) (fun k=>(zaO l k).isSome) cnt2:=⟨by rw [zjF]; exact hrg2,za hbox hb2,zl hown hb2,zc hb1 hb2⟩;have HS2:=hide st2;clear st2 hrg2 hb2 hown hbox hmap pq0 pq1 hb1
 go_loopw [15] (fun _ wr=>∃left cnt,RSt w w1.heap.size wr p bm aq cq l (za5 p0) left cnt) (fun _ wr=>wr.rangeLeft bm w1.heap.size)
 case atStart=>exact ⟨_,_,HS2.out⟩
 case round =>
  obtain ⟨left,cnt,st⟩:=hrel;clear HS2;have hrg:=st.rg;have HST:=hide st;go_wp2_with (first | (at_next; refine zfo _ rfl _ rfl bm w1.heap.size 16777216 _ left cnt rfl hrg ?_ ?_) | go_in)
  ·intro hl0;have hT:Tab wr w.heap.size p bm (zaB l) (fun k=>(zaO l k).bind (za5 p0)):=st.tab hl0 HLP.out HLB.out HOK.out HFW.out;have HB:=hide st.bel;clear hrg st HST;(go_wp2_with fail);refine (zkF _ _ p bm _ _ hT).mono ?_;rintro r w9 ⟨ao9,cap9,rfl,ho9,hr9,hb9⟩;rw [zh9 (zfS l) (za5 p0)] at ho9 hr9;have HO:=hide (zL ho9 (base':=w.heap.size) HB.out.size);have HR:=hide hr9;have HB9:=hide (zc HB.out hb9);clear ho9 hr9 hb9 hT;go_wp2;go_ret;exact ⟨_,_,(by rw [zh9 (zfS l) (za5 p0)]; rfl),HO.out,HR.out,HB9.out⟩
  ·intro s hs;rcases s with ⟨y,v,w3,cnt3⟩
   obtain ⟨hyk,hly,hgy,hrg3,hlt3,hg3,hen⟩:=hs;dsimp only at hyk hly hgy hrg3 hlt3 hg3 hen ⊢;have hv:=hR v (zkn (zk5 hly hgy));have HN:=hide (zkG hly hgy);have hls:upd left y false y=false:=zav _ _ _;have st3:=st.turned hg3 (st.rg.iter) (by omega);have HLE:=hide hrg.left_eq;clear hrg st HST;cases hvs:v.s
   ·cases hvp:(v.p == p0)
    ·have hfv:za5 p0 v=some v:=by unfold za5; rw [hvs]; simp at hvp; simp [hvp]
     rw [hvs] at hen;clear hvs;have b4:=zX w3 (.cells #[.int .i64 y.1,.int .i64 y.2.1,.int .i64 y.2.2] 182) (.cells #[.int .i64 v.t,.int .i64 v.m,.int .i64 v.p,.int .i64 v.a,.bool false] 95);have q1:=za st3.1 b4;have q2:=zl st3.2.1 b4;have q3:=zc st3.2.2 b4;have q4:=hrg3.below b4;have kk:=za (zt w3 (.cells #[.int .i64 y.1,.int .i64 y.2.1,.int .i64 y.2.2] 182)) (zg _ (.cells #[.int .i64 v.t,.int .i64 v.m,.int .i64 v.p,.int .i64 v.a,.bool false] 95));have ke:=zt (w3.alloc (.cells #[.int .i64 y.1,.int .i64 y.2.1,.int .i64 y.2.2] 182)) (.cells #[.int .i64 v.t,.int .i64 v.m,.int .i64 v.p,.int .i64 v.a,.bool false] 95);rw [show (w3.alloc (.cells #[.int .i64 y.1,.int .i64 y.2.1,.int .i64 y.2.2] 182)).heap.size=w3.heap.size+1 by simp] at ke;have hfe:midF (za5 p0) (zaO l) left=midF (za5 p0) (zaO l) (upd left y false):=by rw [← HN.out,hfv,zgk hgy]
     rw [hfe] at q4;have HS4:=hide (show RSt w w1.heap.size ((w3.alloc (.cells #[.int .i64 y.1,.int .i64 y.2.1,.int .i64 y.2.2] 182)).alloc (.cells #[.int .i64 v.t,.int .i64 v.m,.int .i64 v.p,.int .i64 v.a,.bool false] 95)) p bm aq cq l (za5 p0) (upd left y false) cnt3 from ⟨q4,q1,q2,q3⟩);clear q1 q2 q3 q4 kk ke hrg3 st3 hfe b4;go_wp2
     go_roundw
     case rel=>exact ⟨_,_,HS4.out⟩
     case measure=>rw [HS4.out.rg.left_eq,HLE.out]; exact hlt3
    ·have hfv:za5 p0 v=none:=by unfold za5; rw [hvs]; simp at hvp; simp [hvp]
     rw [hvs] at hen;clear hvs;have b4:=zX w3 (.cells #[.int .i64 y.1,.int .i64 y.2.1,.int .i64 y.2.2] 182) (.cells #[.int .i64 v.t,.int .i64 v.m,.int .i64 v.p,.int .i64 v.a,.bool false] 95);have q1:=za st3.1 b4;have q2:=zl st3.2.1 b4;have q3:=zc st3.2.2 b4;have q4:=hrg3.below b4;have kk:=za (zt w3 (.cells #[.int .i64 y.1,.int .i64 y.2.1,.int .i64 y.2.2] 182)) (zg _ (.cells #[.int .i64 v.t,.int .i64 v.m,.int .i64 v.p,.int .i64 v.a,.bool false] 95));have ke:=zt (w3.alloc (.cells #[.int .i64 y.1,.int .i64 y.2.1,.int .i64 y.2.2] 182)) (.cells #[.int .i64 v.t,.int .i64 v.m,.int .i64 v.p,.int .i64 v.a,.bool false] 95);rw [show (w3.alloc (.cells #[.int .i64 y.1,.int .i64 y.2.1,.int .i64 y.2.2] 182)).heap.size=w3.heap.size+1 by simp] at ke;(go_wp2_with fail);clear hen;generalize hw4:(w3.alloc (.cells #[.int .i64 y.1,.int .i64 y.2.1,.int .i64 y.2.2] 182)).alloc (.cells #[.int .i64 v.t,.int .i64 v.m,.int .i64 v.p,.int .i64 v.a,.bool false] 95)=w4 at *;obtain ⟨w5,cnt5,hr5,hrg5,hle5,hg5,-⟩:=Ranging.drop (w:=w4.drew) (q4.kept rfl rfl) hyk hls 0;have hr5:(Builtin.delete_ #[178,182] 0 #[.map (some bm),.agg #[.int .i64 y.1,.int .i64 y.2.1,.int .i64 y.2.2]]).run Tryz.prog w4.drew=.ok (.tuple #[]) w5:=hr5;have hg5:w4.grownBy w5 (some bm):=⟨hg5.os,hg5.tape,hg5.output,hg5.size,hg5.block⟩;have hfe:upd (midF (za5 p0) (zaO l) left) y none=midF (za5 p0) (zaO l) (upd left y false):=by rw [← HN.out,hfv]
     rw [hfe] at hrg5;have hk4:=q4.mapk;have n5:=zf3 hk4 q1;have m5:=zf3 hk4 kk;have q5:=ze q1 hg5 (fun i hi=>by cases hi; exact n5);have kk5:=ze kk hg5 (fun i hi=>by cases hi; exact m5);have HS5:=hide (show RSt w w1.heap.size w5 p bm aq cq l (za5 p0) (upd left y false) cnt5 from ⟨hrg5,q5,zib q2 hg5 hk4,q3.grown hg5 q3.size (fun i hi=>by cases hi; exact HLB.out)⟩);have hS0:w4.drew.cell? ⟨p,1,none⟩=some (.map (some bm))∧_:=⟨(zG (w:=w4.drew) q1).1.2,(zaZ (w:=w4.drew) kk).1⟩;have hS1:w5.cell? ⟨p,1,none⟩=some (.map (some bm))∧_:=⟨(zG q5).1.2,(zaZ kk5).1⟩;clear q1 kk ke q2 q3 q4 hrg3 st3 hfe b4 hk4 n5 m5 q5 kk5 hrg5;refine wp_region_held_drew (S:=(fun W=>zcc W p 1 (.map (some bm))∧(zcc W w3.heap.size 0 (.int .i64 y.1)∧zcc W w3.heap.size 1 (.int .i64 y.2.1)∧zcc W w3.heap.size 2 (.int .i64 y.2.2)))) (by kernel_rfl) (by first | exact hS0 | exact hS1) (fun hHeld => ?_);refine kK 0 ?_;refine kK 1 ?_;refine kK 2 ?_;refine kK 3 ?_;refine kK 4 ?_;refine kR 5 fun K hK => ?_
     go_simp;refine kO hK (by first | exact hS0 | exact hS1) fun hHeld => ?_
     clear hK K;refine wpAnyH_done (by kernel_rfl) ?_ _;clear hS0 hS1 hr5 hHeld;go_wp2
     go_roundw
     case rel=>exact ⟨_,_,HS5.out⟩
     case measure=>rw [HS5.out.rg.left_eq,HLE.out]; omega
   ·have hfv:za5 p0 v=some v:=by unfold za5; rw [hvs]; rfl
    rw [hvs] at hen;clear hvs;have b4:=zX w3 (.cells #[.int .i64 y.1,.int .i64 y.2.1,.int .i64 y.2.2] 182) (.cells #[.int .i64 v.t,.int .i64 v.m,.int .i64 v.p,.int .i64 v.a,.bool true] 95);have q1:=za st3.1 b4;have q2:=zl st3.2.1 b4;have q3:=zc st3.2.2 b4;have q4:=hrg3.below b4;have kk:=za (zt w3 (.cells #[.int .i64 y.1,.int .i64 y.2.1,.int .i64 y.2.2] 182)) (zg _ (.cells #[.int .i64 v.t,.int .i64 v.m,.int .i64 v.p,.int .i64 v.a,.bool true] 95));have ke:=zt (w3.alloc (.cells #[.int .i64 y.1,.int .i64 y.2.1,.int .i64 y.2.2] 182)) (.cells #[.int .i64 v.t,.int .i64 v.m,.int .i64 v.p,.int .i64 v.a,.bool true] 95);rw [show (w3.alloc (.cells #[.int .i64 y.1,.int .i64 y.2.1,.int .i64 y.2.2] 182)).heap.size=w3.heap.size+1 by simp] at ke;have hfe:midF (za5 p0) (zaO l) left=midF (za5 p0) (zaO l) (upd left y false):=by rw [← HN.out,hfv,zgk hgy]
    rw [hfe] at q4;have HS4:=hide (show RSt w w1.heap.size ((w3.alloc (.cells #[.int .i64 y.1,.int .i64 y.2.1,.int .i64 y.2.2] 182)).alloc (.cells #[.int .i64 v.t,.int .i64 v.m,.int .i64 v.p,.int .i64 v.a,.bool true] 95)) p bm aq cq l (za5 p0) (upd left y false) cnt3 from ⟨q4,q1,q2,q3⟩);clear q1 q2 q3 q4 kk ke hrg3 st3 hfe b4;go_wp2
    go_roundw
    case rel=>exact ⟨_,_,HS4.out⟩
    case measure=>rw [HS4.out.rg.left_eq,HLE.out]; exact hlt3

def zaA (bits:Int):Nat→List Int
 | 0=>[]
 | k+1=>if bitOf bits (k:Int)=true then zaA bits k else zaA bits k++[(k:Int)]

theorem zdr (bits:Int) (l:List FE):∀k,(zaA bits k).foldl zY l=zaz bits l k
 | 0=>rfl
 | k+1=>by
  rw [zaA,zaz]
  split
  ·exact zdr bits l k
  ·rw [List.foldl_append,zdr bits l k]
   rfl

theorem zeU (bits:Int):∀k,(zaA bits k).length≤k
 | 0=>Nat.le_refl _
 | k+1=>by
  rw [zaA]
  have:=zeU bits k
  split
  ·omega
  ·simp; omega

theorem ziY:∀b0 b1 b2 b3 b4 b5:Bool,∀n:Fin 7,0≤zdg (six b0 b1 b2 b3 b4 b5) n.val∧zdg (six b0 b1 b2 b3 b4 b5) n.val≤63:=by
 decide +kernel

theorem zjY (id:Int) (l:List PT):0≤zbc id l∧zbc id l≤63:=by
 unfold zbc;rw [zil];generalize (fun i:Nat=>decide (zaH id l (i:Int)≤2))=f;have hn:min l.length 6≤6:=Nat.min_le_right _ _;generalize min l.length 6=m at hn;have e:∀j,j < 6→f j=six (f 0) (f 1) (f 2) (f 3) (f 4) (f 5) j:=by
  intro j hj;rcases (show j=0∨j=1∨j=2∨j=3∨j=4∨j=5 by omega) with rfl | rfl | rfl | rfl | rfl | rfl <;> rfl
 rw [zfK f _ m (fun j hj=>e j (by omega))];exact ziY (f 0) (f 1) (f 2) (f 3) (f 4) (f 5) ⟨m,by omega⟩

theorem zju (id:Int) (l:List PT) (k:Nat) (hk:k≤7):hasP (zbc id l) (k:Int)=bitOf (zbc id l) (k:Int):=by
 have:=zjY id l
 exact zjt (by unfold I64; omega) (Or.inl (by omega))

theorem zfi (id:Int) (a:Option Addr) (n c:Nat) (l:List PT) (w:World) (h:GRow ptF w a n c l) (hn:n≤6) (bits:Int) (hbits:zbc id l=bits) :
  Calls Tryz.prog 107 #[.slice a n c,.int .i64 id] w fun e w'=>∃ao cap,e=.returned (.slice ao (zaA bits n).length cap)∧w'.ownsRow w.heap.size 3 1 (.slice ao (zaA bits n).length cap) (zaA bits n).length (intF.all (zaA bits n))∧Below w.heap.size w w':=by
 have HBI:Hid (∀k:Nat,k≤7→hasP bits (k:Int)=bitOf bits (k:Int)):=hide (fun k hk=>by rw [← hbits]; exact zju id l k hk);have HBT:=hide hbits;clear hbits;go_enter Tryz.func107,Tryz.ntmps107;go_wp2_with fail
 refine (zfY id a n c l _ h).mono ?_;rintro e w1 ⟨rfl,hb1⟩;rw [HBT.out];go_wp2_with fail
 go_loopw [6,13] (fun p i wr=>∃(k:Nat) (ao:Option Addr) (cap:Nat),k≤n∧i=.int .i64 k∧p=.slice ao (zaA bits k).length cap∧wr.ownsRow w.heap.size 3 1 (.slice ao (zaA bits k).length cap) (zaA bits k).length (intF.all (zaA bits k))∧Below w.heap.size w wr) (fun _ i _=>n - (intOf i).toNat)
 case atStart=>exact ⟨0,none,0,Nat.zero_le _,rfl,rfl,World.ownsRow_nil _ _ _ _,hb1⟩
 case round =>
  obtain ⟨k,ao,cap,hk,rfl,rfl,own,hb⟩:=hrel;clear hb1;by_cases hlt:k < n
  ·have i1:(0:Int)≤(k:Int):=by omega
   have i2:(k:Int) < (n:Int):=by omega
   have HLQ:=hide (zeU bits k);(go_wp2_with fail);refine (zeF bits (k:Int) (by omega) _).mono ?_;rintro e w2 ⟨rfl,e2⟩;obtain rfl:=e2.symm;rw [HBI.out k (by omega)];cases hbk:bitOf bits (k:Int)
   ·have HF:Hid (zaA bits (k+1)=zaA bits k++[(k:Int)]):=hide (by rw [zaA,if_neg (by rw [hbk]; decide)]);clear hbk;generalize hwa:wr.alloc (Obj.cells #[Value.int .i64 k] 3)=wa;have bra:=zb hwa;have ka:=zk hwa;have gone:GRow intF wa (some ⟨wr.heap.size,0,none⟩) 1 1 [(k:Int)]:=zD (F:=intF) (zdq intF (x:=(k:Int)) (base:=0) ka rfl (Nat.zero_le _));have hI2:=zl own bra;have HBA:=hide (zc hb bra);clear own hb;generalize hq:(zaA bits k).length=q at *;go_wp2_with (at_builtin; refine zE (F:=intF) _ rfl _ _ 24 3 rfl w.heap.size Tryz.underlying24 Tryz.infoI64 rfl (by decide) _ q (zaA bits k) rfl hI2 (some ⟨wr.heap.size,0,none⟩) 1 1 [(k:Int)] rfl gone (by have:=HLQ.out; omega) HBA.out.size ?_)
    intro a7 c7 w7 how hr hgr hb7;have HB7:=hide (HBA.out.trans hb7);have HQ1:Hid ((zaA bits (k+1)).length=q+1):=hide (by rw [HF.out,List.length_append,hq]; rfl);rw [← HF.out] at how;have HO:=hide how;clear how hr hgr hb7 hI2 gone ka hq;go_wp2
    go_roundw
    case rel=>exact ⟨k+1,a7,c7,by omega,by go_num,by rw [HQ1.out],by rw [HQ1.out]; exact HO.out,HB7.out⟩
    case measure=>simp [intOf]; omega
   ·have HF:Hid (zaA bits (k+1)=zaA bits k):=hide (by rw [zaA,if_pos hbk]);have HO:=hide own;clear hbk own;go_wp2
    go_roundw
    case rel=>exact ⟨k+1,ao,cap,by omega,by go_num,by rw [HF.out],by rw [HF.out]; exact HO.out,hb⟩
    case measure=>simp [intOf]; omega
  ·have hkn:k=n:=by omega
   subst hkn;have HO:=hide own;clear own;go_wp2;go_ret;exact ⟨ao,cap,rfl,HO.out,hb⟩

theorem ziE {l:List FE} (h:∀x∈l,x.Rng) (p:Int):∀x∈zY l p,x.Rng:=fun x hx=>h x (List.mem_filter.1 hx).1

theorem zjr (qs:List Int):∀{l:List FE},(∀x∈l,x.Rng)→∀x∈qs.foldl zY l,x.Rng:=by
 induction qs with
 | nil=>exact fun h=>h
 | cons q qs ih=>exact fun h=>ih (ziE h q)

theorem zjq (qs:List Int):∀{l:List FE},(qs.foldl zY l).length≤l.length:=by
 induction qs with
 | nil=>exact Nat.le_refl _
 | cons q qs ih=>exact Nat.le_trans ih (List.length_filter_le _ _)

theorem zlL {w:World} {base:Nat} {ao:Option Addr} {n cap:Nat} {l:List Int} (h:w.ownsRow base 3 1 (.slice ao n cap) n (intF.all l)) (i:Nat) (hi:i < n):∃(z:Int) (b off:Nat),l[i]? = some z∧ao=some ⟨b,off,none⟩∧w.cell? ⟨b,off+i,none⟩=some (.int .i64 z):=by
 obtain ⟨z,b,off,hz,ha,hc⟩:=(zD (F:=intF) h).at i hi;exact ⟨z,b,off,hz,ha,by have:=hc 0 _ rfl; simpa [intF] using this⟩

theorem zfn {qs:List Int} {k:Nat} {z:Int} (hz:qs[k]? = some z) (l:List FE):(qs.take (k+1)).foldl zY l=zY ((qs.take k).foldl zY l) z:=by
 rw [List.take_add_one,hz,List.foldl_append]
 rfl

theorem zeK (base:Nat) (a:Option Addr) (n c:Nat) (fa:Option Addr) (fn fc:Nat) (ra:Option Addr) (rn rc:Nat) (oa:Option Addr) (on oc:Nat) (B:BR) (w:World) (h:BrOwn w base a n c fa fn fc ra rn rc oa on oc B) (hbase:base≤w.heap.size) (hn:n≤6) (hfn:fn≤16777216) (hv:0≤B.vers∧B.vers≤1000000) (hR:∀x∈B.f,x.Rng) :
  Calls Tryz.prog 75 #[.agg #[.slice a n c,.int .i64 B.id,.string B.name,.slice none 0 0,.slice fa fn fc,.slice ra rn rc,.slice oa on oc,.int .i64 B.ticks,.int .i64 B.parse,.int .i64 B.word,.int .i64 B.drops,.int .i64 B.vers]] w fun e w'=>∃(fa2:Option Addr) (fn2 fc2:Nat),e=.returned (.agg #[.int .i64 B.id,.string B.name,.slice a n c,.slice fa2 fn2 fc2,.slice ra rn rc,.slice oa on oc,.int .i64 B.ticks,.int .i64 B.parse,.int .i64 B.word,.int .i64 B.drops,.int .i64 (zap B.vers)])∧BrOwn w' base a n c fa2 fn2 fc2 ra rn rc oa on oc (turned B)∧Below w.heap.size w w':=by
 have hpl:=hide (zD (F:=ptF) h.ports).size;have HFL:=hide (zD (F:=fentF) h.f).size;generalize hw1:w.alloc (Obj.cells #[.slice a n c,.int .i64 B.id,.string B.name,.slice none 0 0,.slice fa fn fc,.slice ra rn rc,.slice oa on oc,.int .i64 B.ticks,.int .i64 B.parse,.int .i64 B.word,.int .i64 B.drops,.int .i64 B.vers] 116)=w1;generalize hw2:w1.alloc (Obj.cells #[.int .i64 0,.string ⟨#[]⟩,.slice none 0 0,.slice none 0 0,.slice none 0 0,.slice none 0 0,.int .i64 0,.int .i64 0,.int .i64 0,.int .i64 0,.int .i64 0] 61)=w2;have b01:=zb hw1;have b12:=zb hw2;have z1:w.heap.size < w1.heap.size:=by rw [← hw1]; simp
 have st2:IbSt w w2 w1.heap.size w.heap.size #[.int .i64 0,.string ⟨#[]⟩,.slice none 0 0,.slice none 0 0,.slice none 0 0,.slice none 0 0,.int .i64 0,.int .i64 0,.int .i64 0,.int .i64 0,.int .i64 0] #[.slice a n c,.int .i64 B.id,.string B.name,.slice none 0 0,.slice fa fn fc,.slice ra rn rc,.slice oa on oc,.int .i64 B.ticks,.int .i64 B.parse,.int .i64 B.word,.int .i64 B.drops,.int .i64 B.vers] 61 116:=⟨za (zk hw1) b12,by rw [← hw2]; exact zt _ _,zc b01 b12,Nat.le_refl _,Nat.le_of_lt z1,Nat.ne_of_gt z1⟩;have own2:=h.below (zc b01 b12);obtain ⟨x0,x1,x2,x3,x4,x5,x6,x7,x8,x9,x10,x11⟩:=za6 st2.box;have f11:=zi st2.box 11;obtain ⟨V,hV⟩:∃V,V=zap B.vers:=⟨_,rfl⟩;have HV:=hide hV;have HVR:=hide hv;have HR:=hide hR;clear hv hR z1 b01 b12;go_enter Tryz.func75,Tryz.ntmps75;go_wp2_with fail
 refine (zhp B.vers _ HVR.out.2 HVR.out.1).mono ?_;rintro e w3 ⟨rfl,e3⟩;obtain rfl:=e3.symm;rw [← hV];clear hV hw1 hw2;generalize hRR:w1.heap.size=R at *;have st4:=st2.put 11 (.int .i64 V) (cs':=#[.slice a n c,.int .i64 B.id,.string B.name,.slice none 0 0,.slice fa fn fc,.slice ra rn rc,.slice oa on oc,.int .i64 B.ticks,.int .i64 B.parse,.int .i64 B.word,.int .i64 B.drops,.int .i64 V]) rfl;have own4:=own2.other st2.box (by decide) (by decide) (by decide) (by decide) 11 (.int .i64 V);generalize hw4:w2.setCell ⟨w.heap.size,11,none⟩ (.int .i64 V)=w4 at st4 own4;go_upto_region 2 with fail
 clear x0 x1 x2 x3 x4 x5 x6 x7 x8 x9 x10 x11 f11 st2 own2
 try rw [hw4]
 clear hw4;obtain ⟨x0,x1,x2,x3,x4,x5,x6,x7,x8,x9,x10,x11⟩:=za6 st4.box;generalize hbits:zbc B.id B.ports=bits;have HBI:=hide hbits;go_wp2_with fail
 refine (zfi B.id a n c B.ports _ (zD (F:=ptF) own4.ports) hn bits hbits).mono ?_;rintro e w5 ⟨aq,cq,rfl,oq,hb5⟩;have st5:=st4.later hb5;have own5:=own4.below hb5;have HQ6:=hide (Nat.le_trans (zeU bits n) hn);have HQF:=hide (zdr bits B.f n);have oq:=zL oq (base':=w.heap.size) st4.below.size;clear x0 x1 x2 x3 x4 x5 x6 x7 x8 x9 x10 x11 st4 own4 hb5 hbits;generalize hqs:zaA bits n=qs at *;generalize hqn:qs.length=qn at *;have HQN:=hide hqn;clear hqn hqs;go_wp2_with fail
 go_loopw [18] (fun i wr=>∃(k:Nat) (fa2:Option Addr) (fn2 fc2:Nat),k≤qn∧i=.int .i64 k∧fn2≤fn∧IbSt w wr R w.heap.size #[.int .i64 0,.string ⟨#[]⟩,.slice none 0 0,.slice none 0 0,.slice none 0 0,.slice none 0 0,.int .i64 0,.int .i64 0,.int .i64 0,.int .i64 0,.int .i64 0] #[.slice a n c,.int .i64 B.id,.string B.name,.slice none 0 0,.slice fa2 fn2 fc2,.slice ra rn rc,.slice oa on oc,.int .i64 B.ticks,.int .i64 B.parse,.int .i64 B.word,.int .i64 B.drops,.int .i64 V] 61 116∧BrOwn wr base a n c fa2 fn2 fc2 ra rn rc oa on oc { B with f:=(qs.take k).foldl zY B.f }∧wr.ownsRow w.heap.size 3 1 (.slice aq qn cq) qn (intF.all qs)) (fun i _=>qn - (intOf i).toNat)
 case atStart=>exact ⟨0,fa,fn,fc,Nat.zero_le _,rfl,Nat.le_refl _,st5,own5,oq⟩
 case round =>
  obtain ⟨k,fa2,fn2,fc2,hk,rfl,hf2,st,own,oq⟩:=hrel;have hq6:qn≤6:=HQ6.out;clear st5 own5;obtain ⟨x0,x1,x2,x3,x4,x5,x6,x7,x8,x9,x10,x11⟩:=za6 st.box;by_cases hlt:k < qn
  ·have i1:(0:Int)≤(k:Int):=by omega
   have i2:(k:Int) < (qn:Int):=by omega
   obtain ⟨z,qb,qo,hz,rfl,cz⟩:=zlL oq k hlt;have HF:=hide (zfn hz B.f);have HRF:Hid (∀x∈(qs.take k).foldl zY B.f,x.Rng):=hide (zjr _ HR.out);have HLF:Hid (((qs.take (k+1)).foldl zY B.f).length≤fn):=hide (by have:=zjq (qs.take (k+1)) (l:=B.f); have:=HFL.out; omega);clear hz;generalize hLS:(qs.take k).foldl zY B.f=ls at *;(go_wp2_with fail);refine (zfT fa2 fn2 fc2 ls z _ (zD (F:=fentF) own.f) (by omega) HRF.out).mono ?_;rintro e w7 ⟨fa7,fc7,rfl,o7,-,hb7⟩;have st7:=st.later hb7;have oq7:=zl oq hb7;have o7:=zL o7 (base':=base) (Nat.le_trans hbase st.below.size);have own7:=(own.below hb7).putF (Below.refl _ _) o7;clear x0 x1 x2 x3 x4 x5 x6 x7 x8 x9 x10 x11 hb7 o7 st own cz oq;obtain ⟨x0,x1,x2,x3,x4,x5,x6,x7,x8,x9,x10,x11⟩:=za6 st7.box;have f4:=zi st7.box 4;rw [← HF.out] at own7 ⊢;generalize hL:((qs.take (k+1)).foldl zY B.f).length=L at *;have HST:=hide (st7.put 4 (.slice fa7 L fc7) (cs':=#[.slice a n c,.int .i64 B.id,.string B.name,.slice none 0 0,.slice fa7 L fc7,.slice ra rn rc,.slice oa on oc,.int .i64 B.ticks,.int .i64 B.parse,.int .i64 B.word,.int .i64 B.drops,.int .i64 V]) rfl);have HOW:=hide (own7.other st7.box (by decide) (by decide) (by decide) (by decide) 4 (.slice fa7 L fc7));have HOQ:=hide (st7.stay oq7 (by decide) 4 (.slice fa7 L fc7));clear st7 own7 oq7 hL;go_wp2
   go_roundw
   case rel=>exact ⟨k+1,fa7,L,fc7,by omega,by go_num,HLF.out,HST.out,HOW.out,HOQ.out⟩
   case measure=>simp [intOf]; omega
  ·have hkn:k=qn:=by omega
   subst hkn;have HT:Hid (turned B={ B with vers:=V,f:=(qs.take k).foldl zY B.f }):=hide (by unfold turned; rw [HBI.out,hpl.out,HV.out,← HQF.out,List.take_of_length_le (by rw [HQN.out]; exact Nat.le_refl _)]);have HST:=hide st;have HOW:=hide own;clear st own oq;(go_wp2_with fail);refine (zcN a n c fa2 fn2 fc2 ra rn rc oa on oc { B with vers:=V } _).mono ?_;rintro e w8 ⟨rfl,hb8⟩;have st8:=HST.out.later hb8;have own8:=HOW.out.below hb8;clear x0 x1 x2 x3 x4 x5 x6 x7 x8 x9 x10 x11 hb8;obtain ⟨y0,y1,y2,y3,y4,y5,y6,y7,y8,y9,y10⟩:=zp st8.res;have fr:=zi st8.res;have fr0:=fr 0;have fr1:=fr 1;have fr2:=fr 2;have fr3:=fr 3;have fr4:=fr 4;have fr5:=fr 5;have fr6:=fr 6;have fr7:=fr 7;have fr8:=fr 8;have fr9:=fr 9;have fr10:=fr 10;have HO:=hide (own8.boxed11 st8.res (.int .i64 B.id) (.string B.name) (.slice a n c) (.slice fa2 fn2 fc2) (.slice ra rn rc) (.slice oa on oc) (.int .i64 B.ticks) (.int .i64 B.parse) (.int .i64 B.word) (.int .i64 B.drops) (.int .i64 V));have HB:=hide (zQ st8.below st8.hR (.int .i64 B.id) (.string B.name) (.slice a n c) (.slice fa2 fn2 fc2) (.slice ra rn rc) (.slice oa on oc) (.int .i64 B.ticks) (.int .i64 B.parse) (.int .i64 B.word) (.int .i64 B.drops) (.int .i64 V));clear st8 own8 fr;go_wp2;exact bodyPost_ret (v:=.agg #[.int .i64 B.id,.string B.name,.slice a n c,.slice fa2 fn2 fc2,.slice ra rn rc,.slice oa on oc,.int .i64 B.ticks,.int .i64 B.parse,.int .i64 B.word,.int .i64 B.drops,.int .i64 V]) (by simp [results,Tryz.results75,go_sem, *]) rfl ⟨fa2,fn2,fc2,(by rw [HV.out]),(by rw [HT.out]; exact ⟨HO.out.ports,HO.out.f,HO.out.v⟩),HB.out⟩

end Go.Proofs.YtkcoehmpnkdinaaGreat
