/-
  Packed: FdbRestS BrPorts SeqB ValsB DrawNt3 DrawNt1.
-/
import Derived.Test.YtkaefmfopejbaaaGreatPVK04
import Derived.Test.YtkaefmfopejbaaaGreatPVK08
import Derived.Test.YtkaefmfopejbaaaGreatShelf
import Derived.Shelf.SlIterI.Sorted
import Derived.RangeFuncBound
namespace Go.Proofs.YtkaefmfopejbaaaGreat
set_option maxRecDepth 100000
set_option maxHeartbeats 16000000
open Go.RowKit

theorem zf1 {α:Type} (F:Flat α) (w:World) (o:Obj) (x:α) (cs:Array Value) (T:TypeId) (h:cs.toList=F.cs x):GRow F ((w.alloc o).alloc (.cells cs T)) (some ⟨w.heap.size+1,0,none⟩) 1 1 [x]:=by
 have:=zcq F (w.alloc o) x cs T h
 rw [show (w.alloc o).heap.size=w.heap.size+1 by simp] at this;exact this

theorem zhN {x:FE} {zs r:List FE} (h:x.s=true):zs++[x]++ageF r=zs++ageF (x::r):=by
 have:ageF (x::r)=x::ageF r:=by unfold ageF; rw [List.filterMap_cons]; unfold ageE; rw [h]; rfl
 rw [this]; simp
theorem ziI {x:FE} {zs r:List FE} (h:x.s=false) (ha:x.a < 4):zs++[(⟨x.t,x.m,x.p,x.a+1,x.s⟩:FE)]++ageF r=zs++ageF (x::r):=by
 have:ageF (x::r)=⟨x.t,x.m,x.p,x.a+1,x.s⟩::ageF r:=by unfold ageF; rw [List.filterMap_cons]; unfold ageE; simp [h,ha]
 rw [this]; simp
theorem zi6 {x:FE} {zs r:List FE} (h:x.s=false) (ha:¬x.a < 4):zs++ageF r=zs++ageF (x::r):=by
 have:ageF (x::r)=ageF r:=by unfold ageF; rw [List.filterMap_cons]; unfold ageE; simp [h,ha]
 rw [this]

theorem zfM (ao:Option Addr) (n cap:Nat) (l:List FE) (w:World) (h:GRow fentF w ao n cap l) (hn:n≤16777216) (hR:∀x∈l,x.Rng) :
  Calls Tryz.prog 106 #[.slice ao n cap] w fun r w'=>∃ao' cap',r=.returned (.slice ao' (ageF l).length cap')∧w'.ownsRow w.heap.size 145 5 (.slice ao' (ageF l).length cap') (ageF l).length (fentF.all (ageF l))∧GRow fentF w' ao' (ageF l).length cap' (ageF l)∧Below w.heap.size w w':=by
 have hle:=h.le;have htop:=h.top;unfold maxLen at htop;have hsz:=h.size;have o0:=zaE fentF w _ 145 _ (zT w (.cells #[] 145)) (Nat.le_refl _);have b0:=zn w (.cells #[] 145);go_enter Tryz.func106,Tryz.ntmps106;go_wp2
 go_loopw [3,4] (fun o i wr=>∃(k:Nat) (zs:List FE) (az:Option Addr) (cz nz:Nat),k≤n∧i=.int .i64 k∧o=.slice az nz cz∧zs.length=nz∧nz≤k∧wr.ownsRow w.heap.size 145 5 (.slice az nz cz) nz (fentF.all zs)∧zs++ageF (l.drop k)=ageF l∧Below w.heap.size w wr) (fun _ i _=>n - (intOf i).toNat)
 case atStart=>exact ⟨0,[],_,_,0,Nat.zero_le _,rfl,rfl,rfl,Nat.zero_le _,o0,by simp,b0⟩
 case round =>
  obtain ⟨k,zs,az,cz,nz,hk,rfl,rfl,hzs,hnz,how,hz,hb⟩:=hrel;clear o0 b0;have hws:=hb.size;by_cases hlt:k < n
  ·obtain ⟨x,b,off,hx,rfl,a0,a1,a2,a3,a4⟩:=zek (h.below hb) k hlt;have hdr:=zfY hx;rw [hdr] at hz;cases hs:x.s
   ·rw [hs] at a4;by_cases ha:x.a < 4
    ·obtain ⟨-,-,-,r1,r2⟩:=hR x (List.mem_of_getElem? hx);have hw:IntKind.i64.wrap (x.a+1)=x.a+1:=zhL _ (by omega);have hcs:(#[.int .i64 x.t,.int .i64 x.m,.int .i64 x.p,.int .i64 (x.a+1),.bool false]:Array Value).toList=fentF.cs ((⟨x.t,x.m,x.p,x.a+1,x.s⟩:FE)):=by simp [fentF, *]
     have HCS:=hide hcs;clear hcs;have hl1:(zs++[(⟨x.t,x.m,x.p,x.a+1,x.s⟩:FE)]).length=nz+1:=by simp [hzs]
     have HL:=hide hl1;have how1:=zi how (zay wr (.cells #[.int .i64 x.t,.int .i64 x.m,.int .i64 x.p,.int .i64 (x.a+1),.bool false] 145) (.cells #[.int .i64 x.t,.int .i64 x.m,.int .i64 x.p,.int .i64 (x.a+1),.bool false] 145));have HBR:=hide (zc hb (zay wr (.cells #[.int .i64 x.t,.int .i64 x.m,.int .i64 x.p,.int .i64 (x.a+1),.bool false] 145) (.cells #[.int .i64 x.t,.int .i64 x.m,.int .i64 x.p,.int .i64 (x.a+1),.bool false] 145)));have hbase9:w.heap.size≤((wr.alloc (.cells #[.int .i64 x.t,.int .i64 x.m,.int .i64 x.p,.int .i64 (x.a+1),.bool false] 145)).alloc (.cells #[.int .i64 x.t,.int .i64 x.m,.int .i64 x.p,.int .i64 (x.a+1),.bool false] 145)).heap.size:=by simp; omega
     have HQ:=hide (show zs++[(⟨x.t,x.m,x.p,x.a+1,x.s⟩:FE)]++ageF (l.drop (k+1))=ageF l from (ziI hs ha).trans hz);clear how hb hz hl1;(try clear hs);go_wp2_with (at_builtin; refine za6 _ rfl _ _ rfl w.heap.size _ nz zs rfl how1 _ 1 1 [(⟨x.t,x.m,x.p,x.a+1,x.s⟩:FE)] rfl (zf1 fentF _ _ ((⟨x.t,x.m,x.p,x.a+1,x.s⟩:FE)) _ _ HCS.out) (by omega) hbase9 ?_)
     intro ao9 cap9 w9 how9 hr9 hgr9 hb9;have HB9:=hide (HBR.out.trans hb9);have HO:=hide how9;clear how9 hr9 hgr9 hb9 how1 HBR;go_wp2
     go_roundw
     case rel=>exact ⟨k+1,zs++[(⟨x.t,x.m,x.p,x.a+1,x.s⟩:FE)],ao9,cap9,nz+1,by omega,by go_num,rfl,HL.out,by omega,HO.out,HQ.out,HB9.out⟩
     case measure=>simp [intOf]; omega
    ·have ha2:(4:Int)≤x.a:=by omega
     have HO:=hide (zi how (zn wr (.cells #[.int .i64 x.t,.int .i64 x.m,.int .i64 x.p,.int .i64 x.a,.bool false] 145)));have HB9:=hide (zc hb (zn wr (.cells #[.int .i64 x.t,.int .i64 x.m,.int .i64 x.p,.int .i64 x.a,.bool false] 145)));have HQ:=hide (show zs++ageF (l.drop (k+1))=ageF l from (zi6 hs ha).trans hz);clear how hb hz;go_wp2
     go_roundw
     case rel=>exact ⟨k+1,zs,az,cz,nz,by omega,by go_num,rfl,hzs,by omega,HO.out,HQ.out,HB9.out⟩
     case measure=>simp [intOf]; omega
   ·rw [hs] at a4;have hcs:(#[.int .i64 x.t,.int .i64 x.m,.int .i64 x.p,.int .i64 x.a,.bool true]:Array Value).toList=fentF.cs (x):=by simp [fentF, *]
    have HCS:=hide hcs;clear hcs;have hl1:(zs++[x]).length=nz+1:=by simp [hzs]
    have HL:=hide hl1;have how1:=zi how (zay wr (.cells #[.int .i64 x.t,.int .i64 x.m,.int .i64 x.p,.int .i64 x.a,.bool true] 145) (.cells #[.int .i64 x.t,.int .i64 x.m,.int .i64 x.p,.int .i64 x.a,.bool true] 145));have HBR:=hide (zc hb (zay wr (.cells #[.int .i64 x.t,.int .i64 x.m,.int .i64 x.p,.int .i64 x.a,.bool true] 145) (.cells #[.int .i64 x.t,.int .i64 x.m,.int .i64 x.p,.int .i64 x.a,.bool true] 145)));have hbase9:w.heap.size≤((wr.alloc (.cells #[.int .i64 x.t,.int .i64 x.m,.int .i64 x.p,.int .i64 x.a,.bool true] 145)).alloc (.cells #[.int .i64 x.t,.int .i64 x.m,.int .i64 x.p,.int .i64 x.a,.bool true] 145)).heap.size:=by simp; omega
    have HQ:=hide (show zs++[x]++ageF (l.drop (k+1))=ageF l from (zhN hs).trans hz);clear how hb hz hl1;(try clear hs);go_wp2_with (at_builtin; refine za6 _ rfl _ _ rfl w.heap.size _ nz zs rfl how1 _ 1 1 [x] rfl (zf1 fentF _ _ (x) _ _ HCS.out) (by omega) hbase9 ?_)
    intro ao9 cap9 w9 how9 hr9 hgr9 hb9;have HB9:=hide (HBR.out.trans hb9);have HO:=hide how9;clear how9 hr9 hgr9 hb9 how1 HBR;go_wp2
    go_roundw
    case rel=>exact ⟨k+1,zs++[x],ao9,cap9,nz+1,by omega,by go_num,rfl,HL.out,by omega,HO.out,HQ.out,HB9.out⟩
    case measure=>simp [intOf]; omega
  ·have hkn:k=n:=by omega
   subst hkn;rw [List.drop_eq_nil_of_le (by omega)] at hz;have hz:zs=ageF l:=by simpa [ageF] using hz
   have hl:nz=(ageF l).length:=by rw [← hz]; exact hzs.symm
   rw [hz] at how;subst hl;have HO:=hide how;have HR:=hide (zA how);have HB:=hide hb;clear how hb;go_wp2;go_ret;exact ⟨_,_,rfl,HO.out,HR.out,HB.out⟩

theorem zdY {x:FE} {p:Int} {zs r:List FE} (h:(x.s || (x.p != p))=true):zs++[x]++zah r p=zs++zah (x::r) p:=by
 have:zah (x::r) p=x::zah r p:=by unfold zah; rw [List.filter_cons,if_pos h]
 rw [this]; simp
theorem zhW {x:FE} {p:Int} {zs r:List FE} (h:(x.s || (x.p != p))=false):zs++zah r p=zs++zah (x::r) p:=by
 have:zah (x::r) p=zah r p:=by unfold zah; rw [List.filter_cons,if_neg (by rw [h]; exact Bool.false_ne_true)]
 rw [this]

theorem zew (ao:Option Addr) (n cap:Nat) (l:List FE) (p:Int) (w:World) (h:GRow fentF w ao n cap l) (hn:n≤16777216) :
  Calls Tryz.prog 136 #[.slice ao n cap,.int .i64 p] w fun r w'=>∃ao' cap',r=.returned (.slice ao' (zah l p).length cap')∧w'.ownsRow w.heap.size 145 5 (.slice ao' (zah l p).length cap') (zah l p).length (fentF.all (zah l p))∧GRow fentF w' ao' (zah l p).length cap' (zah l p)∧Below w.heap.size w w':=by
 have hle:=h.le;have htop:=h.top;unfold maxLen at htop;have hsz:=h.size;have o0:=zaE fentF w _ 145 _ (zT w (.cells #[] 145)) (Nat.le_refl _);have b0:=zn w (.cells #[] 145);go_enter Tryz.func136,Tryz.ntmps136;go_wp2
 go_loopw [5,6] (fun o i wr=>∃(k:Nat) (zs:List FE) (az:Option Addr) (cz nz:Nat),k≤n∧i=.int .i64 k∧o=.slice az nz cz∧zs.length=nz∧nz≤k∧wr.ownsRow w.heap.size 145 5 (.slice az nz cz) nz (fentF.all zs)∧zs++zah (l.drop k) p=zah l p∧Below w.heap.size w wr) (fun _ i _=>n - (intOf i).toNat)
 case atStart=>exact ⟨0,[],_,_,0,Nat.zero_le _,rfl,rfl,rfl,Nat.zero_le _,o0,by simp,b0⟩
 case round =>
  obtain ⟨k,zs,az,cz,nz,hk,rfl,rfl,hzs,hnz,how,hz,hb⟩:=hrel;clear o0 b0;have hws:=hb.size;by_cases hlt:k < n
  ·obtain ⟨x,b,off,hx,rfl,a0,a1,a2,a3,a4⟩:=zek (h.below hb) k hlt;have hdr:=zfY hx;rw [hdr] at hz;cases hs:x.s
   ·rw [hs] at a4;cases hp:(x.p != p)
    ·have hq:(x.s || (x.p != p))=false:=by rw [hs,hp]; rfl
     have HO:=hide how;have HB9:=hide hb;have HQ:=hide (show zs++zah (l.drop (k+1)) p=zah l p from (zhW hq).trans hz);clear how hb hz;go_wp2
     go_roundw
     case rel=>exact ⟨k+1,zs,az,cz,nz,by omega,by go_num,rfl,hzs,by omega,HO.out,HQ.out,HB9.out⟩
     case measure=>simp [intOf]; omega
    ·have hq:(x.s || (x.p != p))=true:=by rw [hs,hp]; rfl
     have hcs:(#[.int .i64 x.t,.int .i64 x.m,.int .i64 x.p,.int .i64 x.a,.bool false]:Array Value).toList=fentF.cs (x):=by simp [fentF, *]
     have HCS:=hide hcs;clear hcs;have hl1:(zs++[x]).length=nz+1:=by simp [hzs]
     have HL:=hide hl1;have how1:=zi how (zn wr (.cells #[.int .i64 x.t,.int .i64 x.m,.int .i64 x.p,.int .i64 x.a,.bool false] 145));have HBR:=hide (zc hb (zn wr (.cells #[.int .i64 x.t,.int .i64 x.m,.int .i64 x.p,.int .i64 x.a,.bool false] 145)));have hbase9:w.heap.size≤(wr.alloc (.cells #[.int .i64 x.t,.int .i64 x.m,.int .i64 x.p,.int .i64 x.a,.bool false] 145)).heap.size:=by simp; omega
     have HQ:=hide (show zs++[x]++zah (l.drop (k+1)) p=zah l p from (zdY hq).trans hz);clear how hb hz hl1;(try clear hs);go_wp2_with (at_builtin; refine za6 _ rfl _ _ rfl w.heap.size _ nz zs rfl how1 _ 1 1 [x] rfl (zcq fentF _ (x) _ _ HCS.out) (by omega) hbase9 ?_)
     intro ao9 cap9 w9 how9 hr9 hgr9 hb9;have HB9:=hide (HBR.out.trans hb9);have HO:=hide how9;clear how9 hr9 hgr9 hb9 how1 HBR;go_wp2
     go_roundw
     case rel=>exact ⟨k+1,zs++[x],ao9,cap9,nz+1,by omega,by go_num,rfl,HL.out,by omega,HO.out,HQ.out,HB9.out⟩
     case measure=>simp [intOf]; omega
   ·rw [hs] at a4;have hq:(x.s || (x.p != p))=true:=by rw [hs]; rfl
    have hcs:(#[.int .i64 x.t,.int .i64 x.m,.int .i64 x.p,.int .i64 x.a,.bool true]:Array Value).toList=fentF.cs (x):=by simp [fentF, *]
    have HCS:=hide hcs;clear hcs;have hl1:(zs++[x]).length=nz+1:=by simp [hzs]
    have HL:=hide hl1;have how1:=zi how (zn wr (.cells #[.int .i64 x.t,.int .i64 x.m,.int .i64 x.p,.int .i64 x.a,.bool true] 145));have HBR:=hide (zc hb (zn wr (.cells #[.int .i64 x.t,.int .i64 x.m,.int .i64 x.p,.int .i64 x.a,.bool true] 145)));have hbase9:w.heap.size≤(wr.alloc (.cells #[.int .i64 x.t,.int .i64 x.m,.int .i64 x.p,.int .i64 x.a,.bool true] 145)).heap.size:=by simp; omega
    have HQ:=hide (show zs++[x]++zah (l.drop (k+1)) p=zah l p from (zdY hq).trans hz);clear how hb hz hl1;(try clear hs);go_wp2_with (at_builtin; refine za6 _ rfl _ _ rfl w.heap.size _ nz zs rfl how1 _ 1 1 [x] rfl (zcq fentF _ (x) _ _ HCS.out) (by omega) hbase9 ?_)
    intro ao9 cap9 w9 how9 hr9 hgr9 hb9;have HB9:=hide (HBR.out.trans hb9);have HO:=hide how9;clear how9 hr9 hgr9 hb9 how1 HBR;go_wp2
    go_roundw
    case rel=>exact ⟨k+1,zs++[x],ao9,cap9,nz+1,by omega,by go_num,rfl,HL.out,by omega,HO.out,HQ.out,HB9.out⟩
    case measure=>simp [intOf]; omega
  ·have hkn:k=n:=by omega
   subst hkn;rw [List.drop_eq_nil_of_le (by omega)] at hz;have hz:zs=zah l p:=by simpa [zah] using hz
   have hl:nz=(zah l p).length:=by rw [← hz]; exact hzs.symm
   rw [hz] at how;subst hl;have HO:=hide how;have HR:=hide (zA how);have HB:=hide hb;clear how hb;go_wp2;go_ret;exact ⟨_,_,rfl,HO.out,HR.out,HB.out⟩

theorem zgt {a c:World} {row:Option Nat} (h:a.grownBy c row):a.grownBy c.drew row:=⟨h.os,h.tape,h.output,h.size,h.block⟩

theorem zf0 {w:World} {i:Nat} {o:Obj} (h:w.heap[i]? = some o):w.drew.heap[i]? = some o:=h

theorem zcz {α:Type} {l:List α} {k:Nat} {x y:α} (hx:l[k]? = some x):∃pre post,l=pre++x::post∧k=pre.length∧pre++y::post=l.set k y:=by
 obtain ⟨hk,rfl⟩:=List.getElem?_eq_some_iff.1 hx;refine ⟨l.take k,l.drop (k+1), ?_, ?_, ?_⟩
 ·rw [← List.drop_eq_getElem_cons hk,List.take_append_drop]
 ·rw [List.length_take]; omega
 ·rw [List.set_eq_take_append_cons_drop,if_pos hk]

theorem zh0 {w:World} {base g n cap k:Nat} {l:List PT} {x:PT} (v:VD) (h:w.ownsRow base 53 8 (.slice (some ⟨g,0,none⟩) n cap) n (ptF.all (l))) (hx:l[k]? = some x) :
  ((((((w.setCell ⟨g,k*8+2,none⟩ (.bool true)).setCell ⟨g,k*8+3,none⟩ (.int .i64 v.r)).setCell ⟨g,k*8+4,none⟩ (.int .i64 v.c)).setCell ⟨g,k*8+5,none⟩ (.int .i64 v.h)).setCell ⟨g,k*8+6,none⟩ (.int .i64 v.b)).setCell ⟨g,k*8+7,none⟩ (.int .i64 v.p)).ownsRow base 53 8 (.slice (some ⟨g,0,none⟩) n cap) n (ptF.all (l.set k ⟨x.up,x.k,true,v⟩)):=by
 obtain ⟨pre,post,e0,rfl,e1⟩:=zcz (y:=(⟨x.up,x.k,true,v⟩:PT)) hx;rw [e0] at h;have R0:=zF (F:=ptF) (x':=⟨x.up,x.k,true,⟨x.v.r,x.v.c,x.v.h,x.v.b,x.v.p⟩⟩) h 2 (.bool true) (by decide) rfl;have R1:=zF (F:=ptF) (x':=⟨x.up,x.k,true,⟨v.r,x.v.c,x.v.h,x.v.b,x.v.p⟩⟩) R0 3 (.int .i64 v.r) (by decide) rfl;have R2:=zF (F:=ptF) (x':=⟨x.up,x.k,true,⟨v.r,v.c,x.v.h,x.v.b,x.v.p⟩⟩) R1 4 (.int .i64 v.c) (by decide) rfl;have R3:=zF (F:=ptF) (x':=⟨x.up,x.k,true,⟨v.r,v.c,v.h,x.v.b,x.v.p⟩⟩) R2 5 (.int .i64 v.h) (by decide) rfl;have R4:=zF (F:=ptF) (x':=⟨x.up,x.k,true,⟨v.r,v.c,v.h,v.b,x.v.p⟩⟩) R3 6 (.int .i64 v.b) (by decide) rfl;have R5:=zF (F:=ptF) (x':=⟨x.up,x.k,true,⟨v.r,v.c,v.h,v.b,v.p⟩⟩) R4 7 (.int .i64 v.p) (by decide) rfl;rw [e1] at R5;exact R5

theorem zdL {w:World} {g k:Nat} (v:VD):w.grownBy ((((((w.setCell ⟨g,k*8+2,none⟩ (.bool true)).setCell ⟨g,k*8+3,none⟩ (.int .i64 v.r)).setCell ⟨g,k*8+4,none⟩ (.int .i64 v.c)).setCell ⟨g,k*8+5,none⟩ (.int .i64 v.h)).setCell ⟨g,k*8+6,none⟩ (.int .i64 v.b)).setCell ⟨g,k*8+7,none⟩ (.int .i64 v.p)) (some g) :=
 zL (zL (zL (zL (zL (zj _ _) (zj _ _)) (zj _ _)) (zj _ _)) (zj _ _)) (zj _ _)

theorem zh4 {w:World} {base g n cap k:Nat} {l:List PT} {x:PT} (up:Bool) (h:w.ownsRow base 53 8 (.slice (some ⟨g,0,none⟩) n cap) n (ptF.all (l))) (hx:l[k]? = some x) :
  ((((((((w.setCell ⟨g,k*8,none⟩ (.bool up)).setCell ⟨g,k*8+1,none⟩ (.int .i64 x.k)).setCell ⟨g,k*8+2,none⟩ (.bool false)).setCell ⟨g,k*8+3,none⟩ (.int .i64 0)).setCell ⟨g,k*8+4,none⟩ (.int .i64 0)).setCell ⟨g,k*8+5,none⟩ (.int .i64 0)).setCell ⟨g,k*8+6,none⟩ (.int .i64 0)).setCell ⟨g,k*8+7,none⟩ (.int .i64 0)).ownsRow base 53 8 (.slice (some ⟨g,0,none⟩) n cap) n (ptF.all (l.set k ⟨up,x.k,false,⟨0,0,0,0,0⟩⟩)):=by
 obtain ⟨pre,post,e0,rfl,e1⟩:=zcz (y:=(⟨up,x.k,false,⟨0,0,0,0,0⟩⟩:PT)) hx;rw [e0] at h;have R:=zjt (y:=⟨up,x.k,false,⟨0,0,0,0,0⟩⟩) h;rw [e1] at R;exact R

theorem zbC {w:World} {base k:Nat} {e:TypeId} {a:Option Addr} {n c:Nat} {ys:List Value} (h:w.ownsRow base e k (.slice a n c) n ys) (hn:0 < n):∃g,a=some ⟨g,0,none⟩:=by
 rcases h.2 with ⟨e1,h0⟩ | ⟨g,cap',cur,e1,-⟩
 ·cases e1;omega
 ·cases e1;exact ⟨g,rfl⟩

theorem zdv {B:BR} (h:zx B=true):B.ports.length≤6∧0≤B.vers∧B.vers≤1000000∧0≤B.ticks∧B.ticks≤1000000:=by
 obtain ⟨-,-,-,h4,-,-,h7,-,-,-,h11⟩:=zK h;rw [zf3] at h7 h11;unfold in3 at h4
 simp at h4
 omega

theorem zgg {B:BR} {n:Nat} {port:Int} (hn:B.ports.length=n) (h:zaS B port=true):∃k:Nat,port=(k:Int)∧k < n∧∃x,B.ports[k]? = some x:=by
 unfold zaS at h;simp only [Bool.and_eq_true,decide_eq_true_eq] at h;obtain ⟨-,h0,h1⟩:=h;refine ⟨port.toNat,by omega,by omega,B.ports[port.toNat]'(by omega),List.getElem?_eq_getElem (by omega)⟩

theorem zhO (l:List FE):(ageF l).length≤l.length:=List.length_filterMap_le _ _

section
open Go.RowKit Go.Maps Go.Sort Go.Shelf

def zc8 (F:Fence) (n:Nat) (P:Program) (g:Nat) (lb:Array Value) (S:List Int→Prop) (N:Nat) (w:World):Prop :=
 ∀(l:Nat) (J:List Int→World→Prop) (W:World),Below w.heap.size w W→AbidesFrom W.heap.size J→(∀pre W1,J pre W1→Below w.heap.size w W1) →
  (∀pre x W1,J pre W1→pre.length < N→YieldAt F (n - 1) P l #[encZ x] W1 fun e W'=>e=.returned (.bool true)∧J (pre++[x]) W'∧KeepsWalks W1 W') →
  J [] W→CallsIn F n P g (#[.func (.yield l) #[] #[]]++lb) W fun e W'=>(∃v,e=.returned v)∧∃xs,S xs∧J xs W'

theorem ziL {F:Fence} {n:Nat} {P:Program} {g:Nat} {lb:Array Value} {S:List Int→Prop} {N:Nat} {w:World} (h:SeqGives F n P g lb encZ S N w):zc8 F n P g lb S N w:=fun l J W hW hJ _ hY h0=>h l J W hW hJ hY h0

variable {P:Program} {ρ:Ren}

theorem zgp (L:SlLaysZI.n11 P ρ) (F:Fence) (n:Nat) (h11:F.fn (ρ.f 11)) (hro:F.round=none) (hn:2≤n) (g:Nat) (lb:Array Value) (hFg:F.fn g) (eg:∀args w,(callFunc g args).run P w=.ok (.enter g args) w)
    (S:List Int→Prop) (N:Nat) (hN:N≤maxLen) (hNb:N*8≤140737488355328) (w:World) (hseq:zc8 F (n - 1) P g lb S N w) :
    CallsIn F n P (ρ.f 11) #[.slice none 0 0,.func (.func g) #[] lb] w fun e w'=>∃(v:Value) (ss:List Int),e=.returned v∧S ss∧w'.ownsRow w.heap.size (ρ.t 26) 1 v ss.length (ss.map encZ)∧(v=.slice none 0 0↔ss=[])∧Below w.heap.size w w':=by
  have h1:1≤n:=by omega
  have mixed:=L.mixed; have t0:=L.t0; have a0:=L.a0; have z0:=L.z0; have v0:=L.v0; have t24:=L.t24; have a24:=L.a24; have z24:=L.z24; have v24:=L.v24; have t26:=L.t26; have a26:=L.a26; have z26:=L.z26; have v26:=L.v26; have t28:=L.t28; have a28:=L.a28; have z28:=L.z28; have v28:=L.v28
  have hne:ρ.t 24≠ρ.t 26:=fun e=>by have h:=L.t24; rw [e,L.t26] at h; cases h
  have u0:=run_underlying L.t0; have u24:=run_underlying L.t24; have u26:=run_underlying L.t26; have u28:=run_underlying L.t28
  obtain ⟨_,_,FG⟩:=L.f11;refine callsIn_of_wp_marks FG rfl h11 ?_ hro;simp only [SlBodyZ.n11_ntmps ρ,List.size_toArray,List.length_cons,List.length_nil,Nat.reduceAdd,Nat.reduceSub,Array.replicate_succ,Array.replicate_zero,List.push_toArray,List.append_toArray,List.nil_append,List.cons_append]
  gi_wp2
  refine wpIn_rangeFunc ?_;intro fn hfn;rw [hro];obtain ⟨W0,hW0⟩:∃W0,w.alloc (.cells #[.slice none 0 0] (ρ.t 24))=W0:=⟨_,rfl⟩;have hs0:W0.heap.size=w.heap.size+1:=by rw [← hW0]; simp
  have hv0:W0.heap[w.heap.size]? = some (.cells #[.slice none 0 0] (ρ.t 24) (0,0)):=by rw [← hW0]; exact World.alloc_heap_new w _
  have hb0:Below w.heap.size w W0:=by rw [← hW0]; exact (Below.refl _ w).alloc (Nat.le_refl _) _
  rw [hW0];obtain ⟨W1,hW1⟩:∃W1,(W0.alloc (.deferred (some []))).alloc (.loop (AnyZI.apRec ρ fn (.func (.func g) #[] lb) w.heap.size W0.heap.size .ready none))=W1:=⟨_,rfl⟩;have hold:∀k,k < W0.heap.size→W1.heap[k]? = W0.heap[k]? := fun k hk=>by
    rw [← hW1]; exact (Below.heap_alloc _ _ k (by simp; omega)).trans (Below.heap_alloc _ _ k hk)
  have hb1:Below w.heap.size w W1:=by rw [← hW1]; exact (hb0.alloc hb0.size _).alloc (by have:=hb0.size; simp; omega) _
  have hs1:W1.heap.size=W0.heap.size+2:=by rw [← hW1]; simp
  have hM:AnyZI.ApAt ρ w fn (.func (.func g) #[] lb) w.heap.size (W0.heap.size+1) W0.heap.size [] W1 :=
    ⟨⟨_,(hold w.heap.size (by omega)).trans hv0,⟨rfl,.inl ⟨rfl,rfl⟩⟩,by simp⟩,
     by rw [← hW1]; have:=World.alloc_heap_new (W0.alloc (.deferred (some []))) (.loop (AnyZI.apRec ρ fn (.func (.func g) #[] lb) w.heap.size W0.heap.size .ready none)); rwa [World.size_alloc] at this,
     by rw [← hW1]; exact (Below.heap_alloc _ _ _ (by simp)).trans (World.alloc_heap_new W0 _),hb1⟩
  refine ⟨W0.heap.size+1,[{ target:=.collected W0.heap.size,args:=#[] }],W1,{ target:=.fn (.func g) lb,args:=#[.func (.yield (W0.heap.size+1)) #[] #[]] },W1,g,
    #[.func (.yield (W0.heap.size+1)) #[] #[]]++lb,W1, ?_, ?_, ?_, ?_,fun _=>h1, ?_⟩
  · rw [← hW1]; exact run_enterLoop_outer _ _ _ _ _
  · simp [resolve,go_sem]
  · intro f' hf'; simp [Target.leads] at hf'; subst hf'; exact hFg
  · simp [invoke,go_sem,eg]
  · refine (hseq (W0.heap.size+1) (AnyZI.ApAt ρ w fn (.func (.func g) #[] lb) w.heap.size (W0.heap.size+1) W0.heap.size) W1 hb1 (AnyZI.ap_abides ρ _ _ _ _ _ _ _ hb1.size) (fun _ _ hj=>hj.below)
      (fun pre x W hJ hl=>AnyZI.apYield { L with } F (n - 1 - 1) w fn hfn _ w.heap.size (W0.heap.size+1) W0.heap.size (by omega) (by omega) (by omega) (Nat.le_refl _) (by omega) N hN hNb pre x W hJ hl) hM).mono ?_
    rintro e W2 ⟨⟨v0,rfl⟩,ss,hS,h2⟩;obtain ⟨v,hv,hrow,hnil⟩:=h2.box;have hend:=run_endLoop (P:=P) h2.L (by simp [AnyZI.apRec]);obtain ⟨W3,hW3⟩:∃W3,W2.putObj (W0.heap.size+1) (.loop { AnyZI.apRec ρ fn (.func (.func g) #[] lb) w.heap.size W0.heap.size .ready none with state:=.exhausted })=W3:=⟨_,rfl⟩;rw [hW3] at hend;have hg3:W2.grownBy W3 (some (W0.heap.size+1)):=by rw [← hW3]; exact grownBy_putObj_a _ _ _
    have hv3:W3.heap[w.heap.size]? = some (.cells #[v] (ρ.t 24) (0,0)):=by rw [← hW3]; exact (World.putObj_heap_other (by omega)).trans hv
    have hK3:W3.heap[W0.heap.size]? = some (.deferred (some [])):=by rw [← hW3]; exact (World.putObj_heap_other (by omega)).trans h2.K
    have hrow3:=hrow.kept hg3 (ownsRow_ne_a hrow h2.L (fun cur e=>by first | cases e | exact hne (Obj.cells.inj e).2.1));have hb3:Below w.heap.size w W3:=h2.below.grown hg3 h2.below.size (fun k e=>by cases e; omega);obtain ⟨hc3,hf3⟩:=cell_of_box_a hv3;clear hW3;refine ⟨none,W3,hend, ?_⟩
    gi_wp2
    rw [← hs0];refine ⟨by simp,.inl ⟨_,_,rfl,run_takeDeferred hK3, ?_⟩⟩;exact ⟨_,results_tmp rfl _ _ _,v,ss,rfl,hS,hrow3.kept (grownBy_putObj_a _ _ _) (ownsRow_ne_a hrow3 hK3 (fun cur e=>by first | cases e | exact hne (Obj.cells.inj e).2.1)),hnil,hb3.grown (grownBy_putObj_a _ _ _) hb3.size (fun k e=>by cases e; omega)⟩

theorem zfn (L:SlLaysZI.n8 P ρ) (F:Fence) (n:Nat) (h8:F.fn (ρ.f 8)) (h11:F.fn (ρ.f 11)) (hro:F.round=none) (hn:3≤n) (g:Nat) (lb:Array Value) (hFg:F.fn g) (eg:∀args w,(callFunc g args).run P w=.ok (.enter g args) w)
  (S:List Int→Prop) (N:Nat) (hN:N≤maxLen) (hNb:N*8≤140737488355328) (w:World) (hseq:zc8 F (n - 1 - 1) P g lb S N w) :
  CallsIn F n P (ρ.f 8) #[.func (.func g) #[] lb] w fun e w'=>∃(v:Value) (ss:List Int),e=.returned v∧S ss∧w'.ownsRow w.heap.size (ρ.t 26) 1 v ss.length (ss.map encZ)∧(v=.slice none 0 0↔ss=[])∧Below w.heap.size w w':=by
 have h1:1≤n:=by omega
 have e11:∀args w,(callFunc (ρ.f 11) args).run P w=.ok (.enter (ρ.f 11) args) w:=L.f11.enters rfl;have mixed:=L.mixed; have t0:=L.t0; have a0:=L.a0; have z0:=L.z0; have v0:=L.v0; have t24:=L.t24; have a24:=L.a24; have z24:=L.z24; have v24:=L.v24; have t26:=L.t26; have a26:=L.a26; have z26:=L.z26; have v26:=L.v26; have t28:=L.t28; have a28:=L.a28; have z28:=L.z28; have v28:=L.v28
 have u0:=run_underlying L.t0; have u24:=run_underlying L.t24; have u26:=run_underlying L.t26; have u28:=run_underlying L.t28
 obtain ⟨_,_,FG⟩:=L.f8;refine callsIn_of_wp FG rfl h8 ?_ hro;simp only [SlBodyZ.n8_ntmps ρ,List.size_toArray,List.length_cons,List.length_nil,Nat.reduceAdd,Nat.reduceSub,Array.replicate_succ,Array.replicate_zero,List.push_toArray,List.append_toArray,List.nil_append,List.cons_append]
 gi_wp2_with (gi_at_fn (ρ.f 11); refine (zgp { L with } F (n - 1) h11 hro (by omega) g lb hFg eg S N hN hNb _ hseq).mono ?_; rintro e w' ⟨v,ss,rfl,hS,hrow,hnil,hb⟩)
 go_ret;exact ⟨v,ss,rfl,hS,hrow,hnil,hb⟩

theorem zgL (L:SlLaysZI.n6 P ρ) (F:Fence) (n:Nat) (h6:F.fn (ρ.f 6)) (h8:F.fn (ρ.f 8)) (h9:F.fn (ρ.f 9)) (h11:F.fn (ρ.f 11)) (hro:F.round=none) (hn:4≤n) (hsort:AnyZI.SortsIn P ρ F (n - 1)) (e9:∀args w,(callFunc (ρ.f 9) args).run P w=.ok (.enter (ρ.f 9) args) w) (g:Nat) (lb:Array Value) (hFg:F.fn g) (eg:∀args w,(callFunc g args).run P w=.ok (.enter g args) w)
  (S:List Int→Prop) (N:Nat) (hlenS:∀ss,S ss→ss.length≤N) (hN:N≤maxLen) (hNb:N*8≤140737488355328) (w:World) (hseq:zc8 F (n - 1 - 1 - 1) P g lb S N w) :
  CallsIn F n P (ρ.f 6) #[.func (.func g) #[] lb] w fun e w'=>∃(v:Value) (ss:List Int),e=.returned v∧S ss ∧
   w'.ownsRow w.heap.size (ρ.t 26) 1 v ss.length ((ss.mergeSort (fun x y=>decide (x≤y))).map encZ)∧(v=.slice none 0 0↔ss=[])∧Below w.heap.size w w':=by
 have h1:1≤n:=by omega
 have e8:∀args w,(callFunc (ρ.f 8) args).run P w=.ok (.enter (ρ.f 8) args) w:=L.f8.enters rfl;have mixed:=L.mixed; have t0:=L.t0; have a0:=L.a0; have z0:=L.z0; have v0:=L.v0; have t24:=L.t24; have a24:=L.a24; have z24:=L.z24; have v24:=L.v24; have t26:=L.t26; have a26:=L.a26; have z26:=L.z26; have v26:=L.v26; have t28:=L.t28; have a28:=L.a28; have z28:=L.z28; have v28:=L.v28
 have u0:=run_underlying L.t0; have u24:=run_underlying L.t24; have u26:=run_underlying L.t26; have u28:=run_underlying L.t28
 obtain ⟨_,_,FG⟩:=L.f6;refine callsIn_of_wp FG rfl h6 ?_ hro;simp only [SlBodyZ.n6_ntmps ρ,List.size_toArray,List.length_cons,List.length_nil,Nat.reduceAdd,Nat.reduceSub,Array.replicate_succ,Array.replicate_zero,List.push_toArray,List.append_toArray,List.nil_append,List.cons_append]
 gi_wp2_with (gi_at_fn (ρ.f 8); refine (zfn { L with } F (n - 1) h8 h11 hro (by omega) g lb hFg eg S N hN hNb _ hseq).mono ?_; rintro e W ⟨v,ss,rfl,hS,hrow,hnil,hb⟩)
 have hlen:=hlenS ss hS;rcases hrow.2 with ⟨rfl,hz⟩ | ⟨gb,cap,cur,rfl,hbase,hgb,r1,r2,r3,r4⟩
 ·have hss:ss=[]:=List.eq_nil_of_length_eq_zero hz;subst hss
  gi_wp2_with (gi_at_fn (ρ.f 9); refine (hsort.2 none 0 W).mono ?_; rintro e w' ⟨rfl,rfl⟩)
  go_ret;exact ⟨.slice none 0 0,[],rfl,hS,by simpa using hrow,by simp,hb⟩
 ·have hH:Holds encZ W gb 0 ss.toArray:=holds_of_block_i hgb (by simpa using r4);have hgl:gb < W.heap.size:=(Array.getElem?_eq_some_iff.1 hgb).1;have hsz:ss.length < 4611686018427387904:=by omega
  have cS:=hsort.1 gb 0 cap ss W hH hgl hsz
  gi_wp2_with (gi_at_fn (ρ.f 9); refine cS.mono ?_; rintro e w' ⟨rfl,nn,os,rfl⟩)
  go_ret;exact ⟨_,ss,rfl,hS,ownsRow_sorted_i (by simp) hbase hgb r1 r2 r3,hnil,hb.grown (grownBy_sorted_i _) hb.size (fun j hj=>by cases hj; exact hbase)⟩

end

section
open Go.RowKit Go.Maps Go.Sort Go.Shelf

def zda (W:World) (sv:Value) (zs:List Int):Prop :=
 (∃a cap,sv=.slice a 0 cap∧zs=[])∨∃b off cap,sv=.slice (some ⟨b,off,none⟩) zs.length cap∧∀j,j < zs.length→b < W.heap.size∧W.cell? ⟨b,off+j,none⟩=some (.int .i64 (zs[j]?.getD 0))

theorem zda.below {A B:World} (h:Below A.heap.size A B) {sv:Value} {zs:List Int}:zda A sv zs→zda B sv zs
 | .inl e=>.inl e
 | .inr ⟨b,off,cap,e,hc⟩=>.inr ⟨b,off,cap,e,fun j hj=>⟨Nat.lt_of_lt_of_le (hc j hj).1 h.size,(h.cell (p:=⟨b,off+j,none⟩) (hc j hj).1).trans (hc j hj).2⟩⟩

theorem ziq (F:Fence) (n:Nat) (h7:F.fn 95) (hro:F.round=none) (hn:1≤n) (l Bs:Nat) (sv:Value) (zs:List Int) (w:World) (hreach:zs.length*8≤140737488351232) (hBs:Bs < w.heap.size) (hc:w.cell? ⟨Bs,0,none⟩=some sv) (hI:zda w sv zs) (J:List Int→World→Prop) (W:World)
  (hB:∀pre W1,J pre W1→Below w.heap.size w W1)
  (hY:∀pre x W1,J pre W1→pre.length < zs.length→YieldAt F (n - 1) Tryz.prog l #[encZ x] W1 fun e W'=>e=.returned (.bool true)∧J (pre++[x]) W'∧KeepsWalks W1 W')
  (h0:J [] W) :
  CallsIn F n Tryz.prog 95 #[.func (.yield l) #[] #[],.pointer (some ⟨Bs,0,none⟩)] W fun e W'=>(∃v,e=.returned v)∧∃xs,xs=zs∧J xs W':=by
 have hcW:=((hB [] W h0).cell (p:=⟨Bs,0,none⟩) hBs).trans hc;rcases hI with ⟨a,cap,rfl,rfl⟩ | ⟨b,off,cap,rfl,hcs⟩
 ·refine callsIn_of_wp Tryz.func95 rfl h7 ?_ hro;simp only [Tryz.ntmps95,List.size_toArray,List.length_cons,List.length_nil,Nat.reduceAdd,Nat.reduceSub,Array.replicate_succ,Array.replicate_zero,List.push_toArray,List.append_toArray,List.nil_append,List.cons_append]
  gi_wp2
  gi_loopw [7] (fun i wr=>i=.int .i64 0∧J [] wr) (fun _ _=>0)
  case atStart=>exact ⟨rfl,h0⟩
  case round =>
   obtain ⟨rfl,hJs⟩:=hrel
   gi_wp2
   go_end0
   exact ⟨⟨_,rfl⟩,_,rfl,hJs⟩
 ·refine callsIn_of_wp Tryz.func95 rfl h7 ?_ hro;simp only [Tryz.ntmps95,List.size_toArray,List.length_cons,List.length_nil,Nat.reduceAdd,Nat.reduceSub,Array.replicate_succ,Array.replicate_zero,List.push_toArray,List.append_toArray,List.nil_append,List.cons_append]
  gi_wp2
  gi_loopw [7] (fun i wr=>∃k:Nat,k≤zs.length∧i=.int .i64 k∧J (zs.take k) wr) (fun i _=>zs.length - (intOf i).toNat)
  case atStart=>exact ⟨0,Nat.zero_le _,rfl,h0⟩
  case round =>
   obtain ⟨k,hk,rfl,hJs⟩:=hrel;have hnx:=hB _ _ hJs;by_cases hlt:k < zs.length
   ·have hcx:wr.cell? ⟨b,off+k,none⟩=some (.int .i64 (zs[k]?.getD 0)):=(hnx.cell (p:=⟨b,off+k,none⟩) (hcs k hlt).1).trans (hcs k hlt).2;have hT:zs.take k++[zs[k]?.getD 0]=zs.take (k+1):=by rw [List.take_add_one,List.getElem?_eq_getElem hlt]; rfl
    have hl:(zs.take k).length < zs.length:=by rw [List.length_take]; omega
    generalize zs[k]?.getD 0=x at hcx hT;have hYk:YieldAt F (n - 1) Tryz.prog l #[.int .i64 x] wr fun e W'=>e=.returned (.bool true)∧J (zs.take k++[x]) W'∧KeepsWalks wr W':=hY _ x wr hJs hl
    obtain ⟨fn,tmps,assign,body,hy,hR⟩:=hYk;have HT:=hide hT;clear hT hl
    gi_wp2
    refine hR.mono ?_;rintro e W3 ⟨rfl,hJ3,hk3⟩
    gi_wp2
    go_roundw
    case rel=>exact ⟨k+1,by omega,by simp,by rw [← HT.out]; exact hJ3⟩
    case measure=>simp [intOf]; omega
   ·obtain rfl:k=zs.length:=by omega
    gi_wp2
    go_end0
    exact ⟨⟨_,rfl⟩,_,rfl,by rw [List.take_length] at hJs; exact hJs⟩

theorem zfa (F:Fence) (n:Nat) (h7:F.fn 95) (hro:F.round=none) (hn:1≤n) (Bs:Nat) (sv:Value) (zs:List Int) (w:World) (hreach:zs.length*8≤140737488351232) (hBs:Bs < w.heap.size) (hc:w.cell? ⟨Bs,0,none⟩=some sv) (hI:zda w sv zs) :
  zc8 F n Tryz.prog 95 #[.pointer (some ⟨Bs,0,none⟩)] (fun xs=>xs=zs) zs.length w:=fun l J W _ _ hB hY h0 =>
 ziq F n h7 hro hn l Bs sv zs w hreach hBs hc hI J W hB hY h0

theorem zgT (a:Option Addr) (len cap:Nat) (w:World) :
  Calls Tryz.prog 64 #[.slice a len cap] w fun e w'=>e=.returned (.func (.func 95) #[] #[.pointer (some ⟨w.heap.size,0,none⟩)])∧w'=w.alloc (.cells #[.slice a len cap] 35):=by
 go_enter Tryz.func64,Tryz.ntmps64;go_wp2;go_ret;exact ⟨rfl,rfl⟩

theorem zhx (m:Nat):AnyZI.SortsIn Tryz.prog Tryz.sortedI_ren Fence.wide m :=
  ⟨fun blk off cap ss W hH hblk hsz=>callsIn_wide.2 (Tryz.slices_Sort_int blk off cap ss W hH hblk hsz),
   fun p cap W=>callsIn_wide.2 (Tryz.slices_Sort_int_none p cap W)⟩

theorem zd9 (g:Nat) (lb:Array Value) (eg:∀args w,(callFunc g args).run Tryz.prog w=.ok (.enter g args) w) (S:List Int→Prop) (N:Nat) (hlenS:∀ss,S ss→ss.length≤N) (hN:N≤16777216) (w:World) (hseq:zc8 Fence.wide 2 Tryz.prog g lb S N w) :
  Calls Tryz.prog 32 #[.func (.func g) #[] lb] w fun e w'=>∃(v:Value) (ss:List Int),e=.returned v∧S ss ∧
   w'.ownsRow w.heap.size 3 1 v ss.length ((ss.mergeSort (fun x y=>decide (x≤y))).map encZ)∧(v=.slice none 0 0↔ss=[])∧Below w.heap.size w w':=by
 have hN2:N≤maxLen:=by unfold maxLen; omega
 have h:=zgL Tryz.sortedI Fence.wide 5 trivial trivial trivial trivial rfl (by omega) (zhx _) (enters_of Tryz.func60 (by kernel_rfl) rfl) g lb trivial eg S N hlenS hN2 (by omega) w hseq
 change CallsIn _ _ Tryz.prog 32 _ _ _ at h
 exact callsIn_wide.1 h

theorem zdO (sv:Value) (zs:List Int) (Bs:Nat) (w:World) (hreach:zs.length≤16777216) (hBs:Bs < w.heap.size) (hc:w.cell? ⟨Bs,0,none⟩=some sv) (hI:zda w sv zs) :
  Calls Tryz.prog 32 #[.func (.func 95) #[] #[.pointer (some ⟨Bs,0,none⟩)]] w fun e w'=>∃v:Value,e=.returned v ∧
   w'.ownsRow w.heap.size 3 1 v zs.length ((zs.mergeSort (fun x y=>decide (x≤y))).map encZ)∧(v=.slice none 0 0↔zs=[])∧Below w.heap.size w w':=by
 refine (zd9 95 _ (enters_of Tryz.func95 (by kernel_rfl) rfl) (fun xs=>xs=zs) zs.length (fun ss e=>by rw [e]; exact Nat.le_refl _) hreach w (zfa Fence.wide 2 trivial rfl (by omega) Bs sv zs w (by omega) hBs hc hI)).mono ?_;rintro e w' ⟨v,ss,rfl,rfl,h1,h2,h3⟩;exact ⟨v,rfl,h1,h2,h3⟩

end

theorem zjf:(Tryz.prog.info? 94).map (fun i=>(i.zero,i.size,i.bytes))=some (some (.agg #[.int .i64 0,.int .i64 0]),evF.k,16):=by kernel_rfl

theorem zen (C:Nat) (a0:Option Addr) (l0 c0:Nat) (z0:List Int) (most:Int) (w:World) (hc:Cur w C a0 l0 c0 z0) (hm0:0 < most) (hm:most≤1000) :
  Calls Tryz.prog 22 #[.pointer (some ⟨C,0,none⟩),.int .i64 most] w fun e w'=>∃(ao:Option Addr) (cap:Nat) (l:List EV),e=.returned (.slice ao l.length cap)∧l.length≤1000∧w'.ownsRow w.heap.size 94 2 (.slice ao l.length cap) l.length (evF.all l)∧Went w w' C a0 l0 c0 z0:=by
 have hlt:=hc.lt;go_enter Tryz.func22,Tryz.ntmps22;go_wp2_with fail
 generalize hw1:w.alloc (Obj.cells #[] 94)=w1;have b1:=zb hw1;have o1:=zaE evF w w1 94 w.heap.size (zk hw1) (Nat.le_refl _);have wn1:=Went.start hc b1;clear hw1 b1;refine (zX C a0 l0 c0 z0 most _ wn1.cur (by omega)).mono ?_;rintro e w2 ⟨x,rfl,hx0,hx1,-,wt⟩;have hx1:=hx1 hm0;obtain ⟨xn,rfl⟩:∃n:Nat,x=(n:Int):=⟨x.toNat,by omega⟩;have HXN:Hid (xn≤1000):=hide (by omega);have wn2:=wn1.trans wt;have o2:=zJ o1 wt.grown (fun b hb=>by cases hb; exact hlt);clear o1 wn1 wt hx0 hx1;go_wp2_with fail
 go_loopw [5,6] (fun o i wr=>∃(m:Nat) (ao:Option Addr) (cap:Nat) (l:List EV),i=.int .i64 (m:Int)∧l.length+m≤1000∧o=.slice ao l.length cap∧wr.ownsRow w.heap.size 94 2 (.slice ao l.length cap) l.length (evF.all l)∧Went w wr C a0 l0 c0 z0) (fun _ i _=>(intOf i).toNat)
 case atStart=>exact ⟨xn,_,_,[],rfl,by simpa using HXN.out,rfl,o2,wn2⟩
 case round =>
  obtain ⟨m,ao,cap,l,rfl,hlm,rfl,ok,wk⟩:=hrel;clear o2 wn2;have HLM:=hide hlm;clear hlm;by_cases hm1:0 < (m:Int)
  ·generalize hwa:wr.alloc (Obj.cells #[.int .i64 1,.int .i64 1,.int .i64 1,.int .i64 2,.int .i64 2,.int .i64 2,.int .i64 2,.int .i64 3,.int .i64 4,.int .i64 5,.int .i64 6] 3)=wa;have ba:=zb hwa;have ka:=zk hwa;have hCa:C < wr.heap.size:=wk.cur.lt;have ok:=zi ok ba;have wk:=wk.made ba;(go_wp2_with fail);refine (zcx C a0 l0 c0 z0 [1,1,1,2,2,2,2,3,4,5,6] _ _ _ wk.cur hCa ka rfl (by simp) (by simp)).mono ?_;rintro e w3 ⟨kd,-,rfl,wt⟩;have ok:=zJ ok wt.grown (fun b hb=>by cases hb; exact hlt);have wk:=wk.trans wt;clear wt ka ba hwa hCa;(go_wp2_with fail);refine (zX C a0 l0 c0 z0 4 _ wk.cur (by omega)).mono ?_;rintro e w4 ⟨i,rfl,-,-,-,wt⟩;have ok:=zJ ok wt.grown (fun b hb=>by cases hb; exact hlt);have wk:=wk.trans wt;clear wt;generalize hwb:w4.alloc (Obj.cells #[.int .i64 kd,.int .i64 i] 94)=wb;have bb:=zb hwb;have kb:=zk hwb;have gone:GRow evF wb (some ⟨w4.heap.size,0,none⟩) 1 1 [⟨kd,i⟩]:=zA (F:=evF) (zcR evF (x:=⟨kd,i⟩) (base:=0) kb rfl (Nat.zero_le _));have ok:=zi ok bb;have wk:=wk.made bb;have WK:=hide wk;have hbA:=wk.grown.size;have HL1:Hid ((l++[(⟨kd,i⟩:EV)]).length=l.length+1):=hide (by rw [List.length_append]; rfl);clear kb bb;go_wp2_with (at_builtin; refine zS (F:=evF) _ rfl _ _ 29 94 rfl w.heap.size Tryz.underlying29 zjf rfl (by decide) _ l.length l rfl ok (some ⟨w4.heap.size,0,none⟩) 1 1 [⟨kd,i⟩] rfl gone (by have:=HLM.out; omega) hbA ?_)
   intro a7 c7 w7 how hr hgr hb7;rw [← HL1.out] at how;have HO:Hid (w7.ownsRow w.heap.size 94 2 (.slice a7 (l++[(⟨kd,i⟩:EV)]).length c7) (l++[(⟨kd,i⟩:EV)]).length (evF.all (l++[(⟨kd,i⟩:EV)]))):=hide how;have HW:=hide (WK.out.madeAt hb7 hlt (Nat.le_refl _));have hmb:(m:Int)≤1000:=by have:=HLM.out; omega
   clear how hr hgr hb7 gone hbA ok wk hwb;go_wp2
   go_roundw
   case rel=>exact ⟨m - 1,a7,c7,l++[⟨kd,i⟩],by rw [show ((m - 1:Nat):Int)=(m:Int) - 1 by omega],by rw [HL1.out]; have:=HLM.out; omega,by rw [HL1.out],HO.out,HW.out⟩
   case measure=>simp [intOf]; omega
  ·have HO:=hide ok;have HW:=hide wk;clear ok wk;go_wp2;go_ret;exact ⟨ao,cap,l,rfl,by have:=HLM.out; omega,HO.out,HW.out⟩

theorem zil (ao:Option Addr) (n c:Nat) (most:Int) (w:World) (hn:n≤1048576) (hm:0≤most) (hm2:most≤1000) :
  Calls Tryz.prog 21 #[.slice ao n c,.int .i64 most] w fun e w'=>∃x:Int,e=.returned (.int .i64 x)∧0≤x∧x≤most∧w'=w:=by
 have hd:(n:Int).tdiv 12=(n:Int) / 12:=Int.tdiv_eq_ediv_of_nonneg (by omega);by_cases h:3+(n:Int) / 12 > most
 ·go_enter Tryz.func21,Tryz.ntmps21;go_wp2;go_ret;exact ⟨most,rfl,hm,Int.le_refl _,rfl⟩
 ·go_enter Tryz.func21,Tryz.ntmps21;go_wp2;go_ret;exact ⟨_,rfl,by omega,by omega,rfl⟩

def idsTo (s:Int):Nat→List Int
 | 0=>[]
 | k+1=>idsTo s k++[1+(s+(k:Int)*3) % 7]
theorem za7 (s:Int):∀k,(idsTo s k).length=k
 | 0=>rfl
 | k+1=>by rw [idsTo,List.length_append,za7 s k]; rfl

theorem zgB (C:Nat) (a0:Option Addr) (l0 c0:Nat) (z0:List Int) (m:Nat) (w:World) (hc:Cur w C a0 l0 c0 z0) (hm:m≤100) :
  Calls Tryz.prog 39 #[.pointer (some ⟨C,0,none⟩),.int .i64 m] w fun e w'=>∃(s:Int) (ao:Option Addr) (cap:Nat),0≤s∧s < 7∧e=.returned (.slice ao m cap)∧w'.ownsRow w.heap.size 3 1 (.slice ao m cap) m (intF.all (idsTo s m))∧Went w w' C a0 l0 c0 z0:=by
 have hlt:=hc.lt;go_enter Tryz.func39,Tryz.ntmps39;go_wp2_with fail
 generalize hw1:w.alloc (Obj.cells #[] 3)=w1;have b1:=zb hw1;have o1:=zaE intF w w1 3 w.heap.size (zk hw1) (Nat.le_refl _);have wn1:=Went.start hc b1;clear hw1 b1;refine (zX C a0 l0 c0 z0 7 _ wn1.cur (by omega)).mono ?_;rintro e w2 ⟨s,rfl,hs0,hs7,-,wt⟩;have hs7:s < 7:=hs7 (by omega);have wn2:=wn1.trans wt;have o2:=zJ o1 wt.grown (fun b hb=>by cases hb; exact hlt);clear o1 wn1 wt;go_wp2_with fail
 go_loopw [5,7] (fun o i wr=>∃(k:Nat) (ao:Option Addr) (cap:Nat),k≤m∧i=.int .i64 k∧o=.slice ao k cap∧wr.ownsRow w.heap.size 3 1 (.slice ao k cap) k (intF.all (idsTo s k))∧Went w wr C a0 l0 c0 z0) (fun _ i _=>m - (intOf i).toNat)
 case atStart=>exact ⟨0,_,_,Nat.zero_le _,rfl,rfl,o2,wn2⟩
 case round =>
  obtain ⟨k,ao,cap,hk,rfl,rfl,ok,wk⟩:=hrel;clear o2 wn2;by_cases hlt2:k < m
  ·have hmm:(s+(k:Int)*3).tmod 7=(s+(k:Int)*3) % 7:=Int.tmod_eq_emod_of_nonneg (by omega);have hr0:0≤(s+(k:Int)*3) % 7∧(s+(k:Int)*3) % 7 < 7:=by omega
   have hb9:=wk.grown.size;have gone:GRow intF (wr.alloc (.cells #[.int .i64 (1+(s+(k:Int)*3) % 7)] 3)) (some ⟨wr.heap.size,0,none⟩) 1 1 [1+(s+(k:Int)*3) % 7]:=zcq intF wr _ _ _ rfl;have oA:=zi ok (zn wr (.cells #[.int .i64 (1+(s+(k:Int)*3) % 7)] 3));have WA:=hide (wk.made (zn wr (.cells #[.int .i64 (1+(s+(k:Int)*3) % 7)] 3)));have hbA:w.heap.size≤(wr.alloc (.cells #[.int .i64 (1+(s+(k:Int)*3) % 7)] 3)).heap.size:=by rw [World.size_alloc]; omega
   go_wp2_with (at_builtin; refine zS (F:=intF) _ rfl _ _ 35 3 rfl w.heap.size Tryz.underlying35 Tryz.infoI64 rfl (by decide) _ k (idsTo s k) rfl oA (some ⟨wr.heap.size,0,none⟩) 1 1 [1+(s+(k:Int)*3) % 7] rfl gone (by omega) hbA ?_)
   intro a7 c7 w7 how hr hgr hb7;have HO:Hid (w7.ownsRow w.heap.size 3 1 (.slice a7 (k+1) c7) (k+1) (intF.all (idsTo s (k+1)))):=hide how;have HW:=hide (WA.out.madeAt hb7 hlt (Nat.le_refl _));clear how hr hgr hb7 gone oA hbA ok wk;go_wp2
   go_roundw
   case rel=>exact ⟨k+1,a7,c7,by omega,by go_num,rfl,HO.out,HW.out⟩
   case measure=>simp [intOf]; omega
  ·have hkm:k=m:=by omega
   subst hkm;have HO:=hide ok;have HW:=hide wk;have HS:=hide (And.intro hs0 hs7);clear ok wk;go_wp2;go_ret;exact ⟨s,ao,cap,HS.out.1,HS.out.2,rfl,HO.out,HW.out⟩

end Go.Proofs.YtkaefmfopejbaaaGreat
