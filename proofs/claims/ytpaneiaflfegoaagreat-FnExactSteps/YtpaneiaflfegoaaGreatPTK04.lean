/-
  Packed: PtMark VrowHelp OwnGen ImplIn PtLaws BrLaws VecNums VecNear VecOk VecStep.
-/
import Derived.Test.YtpaneiaflfegoaaGreatPTKW
import Derived.Test.YtpaneiaflfegoaaGreatPTK01
import Derived.Test.YtpaneiaflfegoaaGreatPTK02
import Derived.Test.YtpaneiaflfegoaaGreatPTK03
import Derived.Deep.RegionHeld3
import Derived.Deep.CutRange
import Derived.Lib.MinMax
namespace Go.Proofs.YtpaneiaflfegoaaGreat
set_option maxRecDepth 100000
set_option maxHeartbeats 16000000
open Go.RowKit

def markP (k:Int):PT:=⟨(k) % 3 == 0,k+1,(k+1+1) % 3 == 0,⟨k+1+1+1,k+1+1+1+1,k+1+1+1+1+1,k+1+1+1+1+1+1,k+1+1+1+1+1+1+1⟩⟩
def zaJ (k:Int) (n:Nat):List PT:=(List.range n).map fun (i:Nat)=>markP (k+8*i)

theorem zfO (k:Int) (n:Nat):(zaJ k n).length=n:=by simp [zaJ]
theorem zhB (k:Int) (j:Nat):zaJ k (j+1)=zaJ k j++[markP (k+8*j)]:=by simp [zaJ,List.range_succ]
theorem zj1 (k:Int) (n j:Nat) (h:j < n):(zaJ k n)[j]?=some (markP (k+8*j)):=by simp [zaJ,List.getElem?_map,List.getElem?_range h]

theorem zi8 (base g n cap:Nat) (l:List PT) (k:Int) (w:World) (hown:w.ownsRow base 103 8 (.slice (some ⟨g,0,none⟩) n cap) n (ptF.all l)) (hn:n≤16777216) (hk0:0≤k) (hk1:k≤1099511627776) :
  Calls Tryz.prog 83 #[.slice (some ⟨g,0,none⟩) n cap,.int .i64 k] w fun r w'=>r=.returned (.int .i64 (k+8*n))∧w'.ownsRow base 103 8 (.slice (some ⟨g,0,none⟩) n cap) n (ptF.all (zaJ k n))∧w.grownBy w' (some g):=by
 have hl:l.length=n:=(zB (F:=ptF) hown).size;go_enter Tryz.func83,Tryz.ntmps83;go_wp2
 go_loopw [1,5] (fun m i wr=>∃j:Nat,j≤n∧i=.int .i64 j∧m=.int .i64 (k+8*j)∧wr.ownsRow base 103 8 (.slice (some ⟨g,0,none⟩) n cap) n (ptF.all (zaJ k j++l.drop j))∧w.grownBy wr (some g)) (fun _ i _=>n - (intOf i).toNat)
 case atStart=>exact ⟨0,Nat.zero_le _,rfl,by simp,by simpa [zaJ] using hown,World.grownBy.refl _ _⟩
 case round =>
  obtain ⟨j,hj,rfl,rfl,how,hg⟩:=hrel;by_cases hlt:j < n
  ·obtain ⟨x,hx⟩:∃x,l[j]?=some x:=⟨l[j]'(by omega),List.getElem?_eq_getElem (by omega)⟩;have hdr:l.drop j=x::l.drop (j+1):=by
    obtain ⟨h,rfl⟩:=List.getElem?_eq_some_iff.1 hx;exact List.drop_eq_getElem_cons h
   rw [hdr] at how;have hlj:=zfO k j;have hz:(zaJ k j++x::l.drop (j+1))[j]?=some x:=by rw [List.getElem?_append_right (by omega),hlj,Nat.sub_self]; rfl
   obtain ⟨⟨t0,t1,t2,t3,t4,t5,t6,t7⟩,f0,f1,f2,f3,f4,f5,f6,f7⟩:=zcG how hz;have o3:=zkf (y:=markP (k+8*j)) how;rw [hlj] at o3;have HO3:=hide o3;have HG:=hide (zz hg (zcE (w:=wr) (g:=g) (j*8) (j*8+1) (j*8+2) (j*8+3) (j*8+4) (j*8+5) (j*8+6) (j*8+7) (.bool (markP (k+8*j)).up) (.int .i64 (markP (k+8*j)).k) (.bool (markP (k+8*j)).has) (.int .i64 (markP (k+8*j)).v.r) (.int .i64 (markP (k+8*j)).v.c) (.int .i64 (markP (k+8*j)).v.h) (.int .i64 (markP (k+8*j)).v.b) (.int .i64 (markP (k+8*j)).v.p)));have HM:=hide (zhB k j);have hm:0≤k+8*(j:Int)∧k+8*(j:Int)≤2199023255552:=by omega
   clear how hg hown o3 hz hdr;generalize hK:k+8*(j:Int)=K at *;go_wp2
   go_roundw
   case rel=>exact ⟨j+1,by omega,by go_num,by simp; omega,by rw [HM.out,List.append_assoc]; exact HO3.out,HG.out⟩
   case measure=>simp [intOf]; omega
  ·have hj':j=n:=by omega
   subst hj';rw [List.drop_eq_nil_of_le (by omega),List.append_nil] at how;have HO:=hide how;clear how hown;go_wp2;go_ret;exact ⟨rfl,HO.out,hg⟩

theorem zhC (k:Int) (c:Nat) (w:World) :
  Calls Tryz.prog 83 #[.slice none 0 c,.int .i64 k] w fun r w'=>r=.returned (.int .i64 k)∧w'=w:=by
 go_enter Tryz.func83,Tryz.ntmps83;go_wp2
 go_loop [1,5] (fun m i=>m=.int .i64 k∧i=.int .i64 0) (fun _ _=>0)
 case atStart=>exact ⟨rfl,rfl⟩
 case round =>
  obtain ⟨rfl,rfl⟩:=hrel;go_wp2;go_ret;exact ⟨rfl,rfl⟩

theorem zfP (base:Nat) (ao:Option Addr) (n cap:Nat) (l:List PT) (k:Int) (w:World) (hown:w.ownsRow base 103 8 (.slice ao n cap) n (ptF.all l)) (hn:n≤16777216) (hk0:0≤k) (hk1:k≤1099511627776) :
  Calls Tryz.prog 83 #[.slice ao n cap,.int .i64 k] w fun r w'=>r=.returned (.int .i64 (k+8*n))∧w'.ownsRow base 103 8 (.slice ao n cap) n (ptF.all (zaJ k n))∧w.grownBy w' (Value.slice ao n cap).ownBlock:=by
 rcases hown.2 with ⟨e,h0⟩ | ⟨g,cap',cur,e,-⟩
 ·cases e;refine (zhC k 0 w).mono ?_;rintro r w' ⟨rfl,rfl⟩;exact ⟨by simp,by simpa [zaJ,Flat.all] using World.ownsRow_nil w' base 103 8,World.grownBy.refl _ _⟩
 ·cases e;exact zi8 base g n cap l k w hown hn hk0 hk1

theorem zhp (ao:Option Addr) (n cap:Nat) (k:Int) (w:World) (h1:GRow ptF w ao n cap (zaJ k n)) (hn:n≤16777216) (hk0:0≤k) (hk1:k≤1099511627776) :
  Calls Tryz.prog 87 #[.slice ao n cap,.int .i64 k] w fun r w'=>r=.returned (.int .i64 (k+8*n))∧Below w.heap.size w w':=by
 go_enter Tryz.func87,Tryz.ntmps87;go_wp2
 go_loopw [1,5] (fun m i wr=>∃j:Nat,j≤n∧i=.int .i64 j∧m=.int .i64 (k+8*j)∧Below w.heap.size w wr) (fun _ i _=>n - (intOf i).toNat)
 case atStart=>exact ⟨0,Nat.zero_le _,rfl,by simp,Below.refl _ _⟩
 case round =>
  obtain ⟨j,hj,rfl,rfl,hb⟩:=hrel;by_cases hlt:j < n
  ·obtain ⟨x,b,off,hx,rfl,c0,c1,c2,c3,c4,c5,c6,c7⟩:=pt_at (h1.below hb) j hlt;rw [zj1 k n j hlt] at hx;cases hx;have hm:0≤k+8*(j:Int)∧k+8*(j:Int)≤2199023255552:=by omega
   unfold markP at c0 c1 c2 c3 c4 c5 c6 c7;generalize hK:k+8*(j:Int)=K at *;go_wp2
   go_roundw
   case rel=>exact ⟨j+1,by omega,by go_num,by simp; omega,hb⟩
   case measure=>simp [intOf]; omega
  ·have hj':j=n:=by omega
   subst hj';go_wp2;go_ret;exact ⟨rfl,hb⟩

theorem zh5 (e:VR) (w:World) :
  Calls Tryz.prog 169 #[.agg #[.int .i64 e.i,.int .i64 e.m,.int .i64 e.b]] w fun r w'=>r=.returned (.agg #[.int .i64 e.i,.int .i64 e.m,.int .i64 e.b])∧Below w.heap.size w w':=by
 go_enter Tryz.func169,Tryz.ntmps169;go_wp2;exact bodyPost_ret (v:=.agg #[.int .i64 e.i,.int .i64 e.m,.int .i64 e.b]) (by simp [results,Tryz.results169,go_sem, *]) rfl ⟨rfl,zac _ _ _ _⟩

theorem zkx:(Tryz.prog.info? 184).map (fun i=>(i.zero,i.size,i.bytes))=some (some (.agg #[.int .i64 0,.int .i64 0,.int .i64 0]),3,24):=by kernel_rfl

def VR.zero:VR:=⟨0,0,0⟩

theorem at3h {w w':World} {b off n cap:Nat} {l:List VR} (h:GRow vrowF w (some ⟨b,off,none⟩) n cap l) (hb:Below w.heap.size w w') {i:Nat} {x:VR} (hx:l[i]?=some x) :
  w'.cell? ⟨b,off+i*3,none⟩=some (.int .i64 x.i)∧w'.cell? ⟨b,off+i*3+1,none⟩=some (.int .i64 x.m)∧w'.cell? ⟨b,off+i*3+2,none⟩=some (.int .i64 x.b):=by
 have hi:i < n:=by
  have:=(List.getElem?_eq_some_iff.1 hx).1
  have:=h.size
  omega
 obtain ⟨y,b',off',hy,e,c⟩:=zbC (h.below hb) i hi;cases e;rw [hx] at hy;cases hy;exact c

theorem ziM {w:World} {base g n cap:Nat} {pre post:List VR} {x y:VR} (h:w.ownsRow base 184 3 (.slice (some ⟨g,0,none⟩) n cap) n (vrowF.all (pre++x::post))) :
  (((w.setCell ⟨g,pre.length*3,none⟩ (.int .i64 y.i)).setCell ⟨g,pre.length*3+1,none⟩ (.int .i64 y.m)).setCell ⟨g,pre.length*3+2,none⟩ (.int .i64 y.b)).ownsRow base 184 3 (.slice (some ⟨g,0,none⟩) n cap) n (vrowF.all (pre++y::post)):=by
 have R0:=zt (F:=vrowF) (x':=⟨y.i,x.m,x.b⟩) h 0 (.int .i64 y.i) (by decide) rfl;have R1:=zt (F:=vrowF) (x':=⟨y.i,y.m,x.b⟩) R0 1 (.int .i64 y.m) (by decide) rfl;exact zt (F:=vrowF) (x':=y) R1 2 (.int .i64 y.b) (by decide) rfl

theorem ze7 {w:World} {g:Nat} (j0 j1 j2:Nat) (u0 u1 u2:Value):w.grownBy (((w.setCell ⟨g,j0,none⟩ u0).setCell ⟨g,j1,none⟩ u1).setCell ⟨g,j2,none⟩ u2) (some g) :=
 zz (zz (zg _ _) (zg _ _)) (zg _ _)

theorem zfq {w:World} {base g n cap:Nat} {T:TypeId} {l:List VR} (h:w.ownsRow base T 3 (.slice (some ⟨g,0,none⟩) n cap) n (vrowF.all l)) {i:Nat} {x:VR} (hx:l[i]?=some x) :
  (w.cell? ⟨g,i*3,none⟩=some (.int .i64 x.i)∧w.cell? ⟨g,i*3+1,none⟩=some (.int .i64 x.m)∧w.cell? ⟨g,i*3+2,none⟩=some (.int .i64 x.b)) ∧
  (w.frozen? ⟨g,i*3,none⟩=false∧w.frozen? ⟨g,i*3+1,none⟩=false∧w.frozen? ⟨g,i*3+2,none⟩=false):=by
 have c0:=zH (F:=vrowF) h hx (j:=0) (v:=.int .i64 x.i) rfl;have c1:=zH (F:=vrowF) h hx (j:=1) (v:=.int .i64 x.m) rfl;have c2:=zH (F:=vrowF) h hx (j:=2) (v:=.int .i64 x.b) rfl;exact ⟨⟨c0.1,c1.1,c2.1⟩,c0.2,c1.2,c2.2⟩

theorem zg1 (ao:Option Addr) (n c:Nat) (l:List VR) (w:World) (hl:GRow vrowF w ao n c l) (hs:n≤1048576) :
  Calls Tryz.prog 144 #[.slice ao n c] w fun r w'=>∃ao' cap,r=.returned (.slice ao' n cap)∧w'.ownsRow w.heap.size 184 3 (.slice ao' n cap) n (vrowF.all l)∧GRow vrowF w' ao' n cap l∧Below w.heap.size w w':=by
 obtain ⟨i0,hi,hz0,hz1,hz2⟩:=zaK zkx;have s1:=hl.size;go_enter Tryz.func144,Tryz.ntmps144;go_wp2_with (at_make; refine wpList_make_full _ rfl _ _ 59 rfl w.heap.size 184 i0 (.agg #[.int .i64 0,.int .i64 0,.int .i64 0]) 3 Tryz.underlying59 hi hz0 hz1 .i64 .i64 _ _ n rfl rfl rfl rfl ?c1 ?c2 ?c3 ?_)
 case c1=>rw [hz2]; omega
 case c2=>unfold maxLen; omega
 case c3=>exact Nat.le_refl _
 intro w1 hown hgrow;have hb1:Below w.heap.size w w1:=(Below.refl _ _).grown hgrow (Nat.le_refl _) (by intro k hk; cases hk);have hown1:w1.ownsRow w.heap.size 184 3 (.slice (some ⟨w.heap.size,0,none⟩) n n) n (vrowF.all (l.take 0++List.replicate (n - 0) VR.zero)):=by
  rw [List.take_zero,List.nil_append,Nat.sub_zero,← zbQ]; exact hown
 clear hown hgrow hi hz0 hz1 hz2;go_wp2
 go_loopw [4] (fun i wr=>∃k:Nat,k≤n∧i=.int .i64 k∧wr.ownsRow w.heap.size 184 3 (.slice (some ⟨w.heap.size,0,none⟩) n n) n (vrowF.all (l.take k++List.replicate (n - k) VR.zero))∧Below w.heap.size w wr) (fun i _=>n - (intOf i).toNat)
 case atStart=>exact ⟨0,Nat.zero_le _,rfl,hown1,hb1⟩
 case round =>
  obtain ⟨k,hk,rfl,ho,hb⟩:=hrel;clear hown1 hb1;by_cases hlt:k < n
  ·obtain ⟨x,b,off,hx,rfl,a0,a1,a2⟩:=zbC (hl.below hb) k hlt;have hrep:List.replicate (n - k) VR.zero=VR.zero::List.replicate (n - (k+1)) VR.zero:=by rw [← List.replicate_succ]; congr 1; omega
   have hlk:(l.take k).length=k:=by rw [List.length_take]; omega
   rw [hrep] at ho;have htk:l.take (k+1)=l.take k++[x]:=by rw [List.take_add_one,hx]; rfl
   have HTK:=hide htk;have HB:=hide hb;have HO:=hide ho;have HX:=hide hx;clear hb ho htk hx;(go_wp2_with fail);refine (zh5 x _).mono ?_;rintro r w2 ⟨rfl,hb2⟩;have ho2:=zi HO.out hb2;have hz:(l.take k++VR.zero::List.replicate (n - (k+1)) VR.zero)[k]?=some VR.zero:=by rw [List.getElem?_append_right (by omega),hlk,Nat.sub_self]; rfl
   obtain ⟨⟨t0,t1,t2⟩,f0,f1,f2⟩:=zfq ho2 hz;have o3:=ziM (y:=x) ho2;rw [hlk] at o3;have HO3:=hide o3;have hb3:=zc HB.out hb2;have HB3:=hide (hb3.grown (ze7 (w:=w2) (g:=w.heap.size) (k*3) (k*3+1) (k*3+2) (.int .i64 x.i) (.int .i64 x.m) (.int .i64 x.b)) hb3.size (by intro j e; cases e; exact Nat.le_refl _));clear ho2 hb2 hb3 o3 hz a0 a1 a2;go_wp2
   go_roundw
   case rel=>exact ⟨k+1,by omega,by go_num,by rw [HTK.out,List.append_assoc]; exact HO3.out,HB3.out⟩
   case measure=>simp [intOf]; omega
  ·have hkn:k=n:=by omega
   subst hkn;rw [Nat.sub_self,List.take_of_length_le (by omega),List.replicate_zero,List.append_nil] at ho;have HO:=hide ho;have HR:=hide (zB ho);have HB:=hide hb;clear ho hb;go_wp2;go_ret;exact ⟨_,_,rfl,HO.out,HR.out,HB.out⟩

theorem zhi (e:VR) (w:World) :
  Calls Tryz.prog 189 #[.agg #[.int .i64 e.i,.int .i64 e.m,.int .i64 e.b],.agg #[.int .i64 e.i,.int .i64 e.m,.int .i64 e.b]] w fun r w'=>r=.returned (.bool true)∧Below w.heap.size w w':=by
 go_enter Tryz.func189,Tryz.ntmps189;go_wp2;go_ret;exact ⟨rfl,zL _ _ _⟩

theorem zhZ (ao:Option Addr) (n c:Nat) (left:Int) (w:World) (hl:n≤maxLen) (h0:0≤left) (h1:left≤1048576) :
  Calls Tryz.prog 135 #[.slice ao n c,.int .i64 left] w fun r w'=>r=.returned (.int .i64 (if (n:Int)≤left then left - n else -1))∧w'=w:=by
 unfold maxLen at hl;go_enter Tryz.func135,Tryz.ntmps135;go_wp2
 all_goals go_ret
 all_goals exact ⟨rfl,rfl⟩

theorem zhX (ao:Option Addr) (n c:Nat) (left:Int) (w:World) (hl:n≤maxLen) (h0:0≤left) (h1:left≤1048576) :
  Calls Tryz.prog 136 #[.slice ao n c,.int .i64 left] w fun r w'=>r=.returned (.int .i64 (if (n:Int)≤left then left - n else -1))∧w'=w:=by
 unfold maxLen at hl;go_enter Tryz.func136,Tryz.ntmps136;go_wp2
 all_goals go_ret
 all_goals exact ⟨rfl,rfl⟩

def markR (k:Int):VR:=⟨k,k+1,k+1+1⟩
def zaR (k:Int) (n:Nat):List VR:=(List.range n).map fun (i:Nat)=>markR (k+3*i)

theorem zfQ (k:Int) (n:Nat):(zaR k n).length=n:=by simp [zaR]
theorem zhD (k:Int) (j:Nat):zaR k (j+1)=zaR k j++[markR (k+3*j)]:=by simp [zaR,List.range_succ]
theorem zj2 (k:Int) (n j:Nat) (h:j < n):(zaR k n)[j]?=some (markR (k+3*j)):=by simp [zaR,List.getElem?_map,List.getElem?_range h]

theorem zgD (base g n cap:Nat) (l:List VR) (k:Int) (w:World) (hown:w.ownsRow base 184 3 (.slice (some ⟨g,0,none⟩) n cap) n (vrowF.all l)) (hn:n≤16777216) (hk0:0≤k) (hk1:k≤1099511627776) :
  Calls Tryz.prog 85 #[.slice (some ⟨g,0,none⟩) n cap,.int .i64 k] w fun r w'=>r=.returned (.int .i64 (k+3*n))∧w'.ownsRow base 184 3 (.slice (some ⟨g,0,none⟩) n cap) n (vrowF.all (zaR k n))∧w.grownBy w' (some g):=by
 have hl:l.length=n:=(zB (F:=vrowF) hown).size;go_enter Tryz.func85,Tryz.ntmps85;go_wp2
 go_loopw [1,5] (fun m i wr=>∃j:Nat,j≤n∧i=.int .i64 j∧m=.int .i64 (k+3*j)∧wr.ownsRow base 184 3 (.slice (some ⟨g,0,none⟩) n cap) n (vrowF.all (zaR k j++l.drop j))∧w.grownBy wr (some g)) (fun _ i _=>n - (intOf i).toNat)
 case atStart=>exact ⟨0,Nat.zero_le _,rfl,by simp,by simpa [zaR] using hown,World.grownBy.refl _ _⟩
 case round =>
  obtain ⟨j,hj,rfl,rfl,how,hg⟩:=hrel;by_cases hlt:j < n
  ·obtain ⟨x,hx⟩:∃x,l[j]?=some x:=⟨l[j]'(by omega),List.getElem?_eq_getElem (by omega)⟩;have hdr:l.drop j=x::l.drop (j+1):=by
    obtain ⟨h,rfl⟩:=List.getElem?_eq_some_iff.1 hx;exact List.drop_eq_getElem_cons h
   rw [hdr] at how;have hlj:=zfQ k j;have hz:(zaR k j++x::l.drop (j+1))[j]?=some x:=by rw [List.getElem?_append_right (by omega),hlj,Nat.sub_self]; rfl
   obtain ⟨⟨t0,t1,t2⟩,f0,f1,f2⟩:=zfq how hz;have o3:=ziM (y:=markR (k+3*j)) how;rw [hlj] at o3;have HO3:=hide o3;have HG:=hide (zz hg (ze7 (w:=wr) (g:=g) (j*3) (j*3+1) (j*3+2) (.int .i64 (markR (k+3*j)).i) (.int .i64 (markR (k+3*j)).m) (.int .i64 (markR (k+3*j)).b)));have HM:=hide (zhD k j);have hm:0≤k+3*(j:Int)∧k+3*(j:Int)≤2199023255552:=by omega
   clear how hg hown o3 hz hdr;generalize hK:k+3*(j:Int)=K at *;go_wp2
   go_roundw
   case rel=>exact ⟨j+1,by omega,by go_num,by simp; omega,by rw [HM.out,List.append_assoc]; exact HO3.out,HG.out⟩
   case measure=>simp [intOf]; omega
  ·have hj':j=n:=by omega
   subst hj';rw [List.drop_eq_nil_of_le (by omega),List.append_nil] at how;have HO:=hide how;clear how hown;go_wp2;go_ret;exact ⟨rfl,HO.out,hg⟩

theorem zfS (k:Int) (c:Nat) (w:World) :
  Calls Tryz.prog 85 #[.slice none 0 c,.int .i64 k] w fun r w'=>r=.returned (.int .i64 k)∧w'=w:=by
 go_enter Tryz.func85,Tryz.ntmps85;go_wp2
 go_loop [1,5] (fun m i=>m=.int .i64 k∧i=.int .i64 0) (fun _ _=>0)
 case atStart=>exact ⟨rfl,rfl⟩
 case round =>
  obtain ⟨rfl,rfl⟩:=hrel;go_wp2;go_ret;exact ⟨rfl,rfl⟩

theorem zes (base:Nat) (ao:Option Addr) (n cap:Nat) (l:List VR) (k:Int) (w:World) (hown:w.ownsRow base 184 3 (.slice ao n cap) n (vrowF.all l)) (hn:n≤16777216) (hk0:0≤k) (hk1:k≤1099511627776) :
  Calls Tryz.prog 85 #[.slice ao n cap,.int .i64 k] w fun r w'=>r=.returned (.int .i64 (k+3*n))∧w'.ownsRow base 184 3 (.slice ao n cap) n (vrowF.all (zaR k n))∧w.grownBy w' (Value.slice ao n cap).ownBlock:=by
 rcases hown.2 with ⟨e,h0⟩ | ⟨g,cap',cur,e,-⟩
 ·cases e;refine (zfS k 0 w).mono ?_;rintro r w' ⟨rfl,rfl⟩;exact ⟨by simp,by simpa [zaR,Flat.all] using World.ownsRow_nil w' base 184 3,World.grownBy.refl _ _⟩
 ·cases e;exact zgD base g n cap l k w hown hn hk0 hk1

theorem zfA (ao:Option Addr) (n cap:Nat) (k:Int) (w:World) (h1:GRow vrowF w ao n cap (zaR k n)) (hn:n≤16777216) (hk0:0≤k) (hk1:k≤1099511627776) :
  Calls Tryz.prog 89 #[.slice ao n cap,.int .i64 k] w fun r w'=>r=.returned (.int .i64 (k+3*n))∧Below w.heap.size w w':=by
 go_enter Tryz.func89,Tryz.ntmps89;go_wp2
 go_loopw [1,5] (fun m i wr=>∃j:Nat,j≤n∧i=.int .i64 j∧m=.int .i64 (k+3*j)∧Below w.heap.size w wr) (fun _ i _=>n - (intOf i).toNat)
 case atStart=>exact ⟨0,Nat.zero_le _,rfl,by simp,Below.refl _ _⟩
 case round =>
  obtain ⟨j,hj,rfl,rfl,hb⟩:=hrel;by_cases hlt:j < n
  ·obtain ⟨x,b,off,hx,rfl,c0,c1,c2⟩:=zbC (h1.below hb) j hlt;rw [zj2 k n j hlt] at hx;cases hx;have hm:0≤k+3*(j:Int)∧k+3*(j:Int)≤2199023255552:=by omega
   unfold markR at c0 c1 c2;generalize hK:k+3*(j:Int)=K at *;go_wp2
   go_roundw
   case rel=>exact ⟨j+1,by omega,by go_num,by simp; omega,hb⟩
   case measure=>simp [intOf]; omega
  ·have hj':j=n:=by omega
   subst hj';go_wp2;go_ret;exact ⟨rfl,hb⟩

theorem zgh (ao:Option Addr) (n c:Nat) (ao':Option Addr) (n' c':Nat) (l:List VR) (w:World) (hl:GRow vrowF w ao n c l) (hl':GRow vrowF w ao' n' c' l) :
  Calls Tryz.prog 165 #[.slice ao n c,.slice ao' n' c'] w fun r w'=>r=.returned (.bool true)∧Below w.heap.size w w':=by
 have hs:=hl.size;have hs':=hl'.size;have htop:=Nat.le_trans hl.le hl.top;unfold maxLen at htop;have hnn:n'=n:=by omega
 subst hnn;go_enter Tryz.func165,Tryz.ntmps165;go_wp2
 go_loopw [5] (fun i wr=>∃k:Nat,k≤n'∧i=.int .i64 k∧Below w.heap.size w wr) (fun i _=>n' - (intOf i).toNat)
 case atStart=>exact ⟨0,Nat.zero_le _,rfl,Below.refl _ _⟩
 case round =>
  obtain ⟨k,hk,rfl,hb⟩:=hrel;by_cases hlt:k < n'
  ·obtain ⟨x,b,off,hx,rfl,a0,a1,a2⟩:=zbC (hl.below hb) k hlt;obtain ⟨y,b',off',hy,rfl,e0,e1,e2⟩:=zbC (hl'.below hb) k hlt;rw [hx] at hy;cases hy;have HS:Hid (∀W,Below wr.heap.size wr W→(W.cell? ⟨b,off+k*3,none⟩=some (.int .i64 x.i)∧W.cell? ⟨b,off+k*3+1,none⟩=some (.int .i64 x.m)∧W.cell? ⟨b,off+k*3+2,none⟩=some (.int .i64 x.b))∧(W.cell? ⟨b',off'+k*3,none⟩=some (.int .i64 x.i)∧W.cell? ⟨b',off'+k*3+1,none⟩=some (.int .i64 x.m)∧W.cell? ⟨b',off'+k*3+2,none⟩=some (.int .i64 x.b))):=hide (fun W h=>⟨at3h (hl.below hb) h hx,at3h (hl'.below hb) h hx⟩);have vv:Below wr.heap.size wr wr.drew:=zp (Below.refl _ _);have i1:(0:Int)≤(k:Int):=by omega
   have i2:(k:Int) < (n':Int):=by omega
   have HB:=hide hb;clear hb a0 a1 a2 e0 e1 e2 hx;(go_wp2_with fail);refine wp_region_held_drew (S:=(fun W=>(W.cell? ⟨b,off+k*3,none⟩=some (.int .i64 x.i)∧W.cell? ⟨b,off+k*3+1,none⟩=some (.int .i64 x.m)∧W.cell? ⟨b,off+k*3+2,none⟩=some (.int .i64 x.b))∧(W.cell? ⟨b',off'+k*3,none⟩=some (.int .i64 x.i)∧W.cell? ⟨b',off'+k*3+1,none⟩=some (.int .i64 x.m)∧W.cell? ⟨b',off'+k*3+2,none⟩=some (.int .i64 x.b)))) (by kernel_rfl) (HS.out _ vv) (fun hHeld => ?_);refine kK 0 ⟨some 17,.move (.tmp 0),59,"exact.go:657",#[],none⟩ ?_;refine kK 1 ⟨some 18,.move (.tmp 5),3,"exact.go:657",#[],none⟩ ?_;refine kK 2 ⟨some 19,.indexAddr 59 (.tmp 17) (.tmp 18),0,"exact.go:657",#[⟨0,.data⟩,⟨1,.data⟩],none⟩ ?_;refine kK 3 ⟨some 20,.load 184 (.tmp 19),184,"exact.go:657",#[⟨2,.data⟩],none⟩ ?_;refine kK 4 ⟨some 21,.move (.tmp 1),59,"exact.go:657",#[],none⟩ ?_;refine kK 5 ⟨some 22,.move (.tmp 5),3,"exact.go:657",#[],none⟩ ?_;refine kK 6 ⟨some 23,.indexAddr 59 (.tmp 21) (.tmp 22),0,"exact.go:657",#[⟨4,.data⟩,⟨5,.data⟩],none⟩ ?_;refine kK 7 ⟨some 24,.load 184 (.tmp 23),184,"exact.go:657",#[⟨6,.data⟩],none⟩ ?_;refine kR 8 ⟨some 25,.call ⟨.value (.func 189),#[.tmp 20,.tmp 24],#[184,184]⟩,4,"exact.go:657",#[⟨3,.data⟩,⟨7,.data⟩],none⟩ (fun K hK => ?_);go_simp;refine (zhi x _).mono ?_;rintro r wz ⟨rfl,hbz⟩;have vv:=zc vv hbz;(go_wp2_with fail);refine hK.out _ _ (HS.out _ vv) (fun hHeld => ?_);clear hK K;(try simp only [Act.put,lA,lB,lC]);refine kK 9 ⟨some 26,.unOp .not 4 (.tmp 25),4,"exact.go:657",#[⟨8,.data⟩],none⟩ ?_;refine wpAnyH_done (by kernel_rfl) ?_ _;have b1:=zc HB.out vv;clear HS hHeld vv;go_wp2
   go_roundw
   case rel=>exact ⟨k+1,by omega,by go_num,b1⟩
   case measure=>simp [intOf]; omega
  ·have hk':k=n':=by omega
   subst hk';go_wp2;go_ret;exact ⟨rfl,hb⟩

def blkL (ao:Option Addr):List Nat:=match ao with | some a=>[a.block] | none=>[]

theorem zR {ao:Option Addr} {n c b:Nat}:(Value.slice ao n c).ownBlock=some b↔b∈blkL ao:=by
 cases ao <;> simp [Value.ownBlock,blkL,eq_comm]

structure Only (bs:List Nat) (w w':World):Prop where
 os:w'.os=w.os
 tape:w'.tape=w.tape
 output:w'.output=w.output
 size:w.heap.size≤w'.heap.size
 block:∀k,k < w.heap.size→k∉bs→w'.heap[k]?=w.heap[k]?

theorem Only.refl (bs:List Nat) (w:World):Only bs w w:=⟨rfl,rfl,rfl,Nat.le_refl _,fun _ _ _=>rfl⟩
theorem Only.trans {bs:List Nat} {a b c:World} (h:Only bs a b) (k:Only bs b c):Only bs a c :=
 ⟨k.os.trans h.os,k.tape.trans h.tape,k.output.trans h.output,Nat.le_trans h.size k.size,fun i hi hn=>(k.block i (Nat.lt_of_lt_of_le hi h.size) hn).trans (h.block i hi hn)⟩
theorem Only.wider {bs cs:List Nat} {a b:World} (h:Only bs a b) (hs:∀x∈bs,x∈cs):Only cs a b :=
 ⟨h.os,h.tape,h.output,h.size,fun k hk hn=>h.block k hk (fun hb=>hn (hs k hb))⟩
theorem Only.of_below {bs:List Nat} {a b:World} (h:Below a.heap.size a b):Only bs a b:=⟨h.os,h.tape,h.output,h.size,fun k hk _=>h.block k hk⟩
theorem Only.of_grown {ao:Option Addr} {n c:Nat} {a b:World} (h:a.grownBy b (Value.slice ao n c).ownBlock):Only (blkL ao) a b :=
 ⟨h.os,h.tape,h.output,h.size,fun k hk hn=>h.block k hk (fun e=>hn (zR.1 e.symm))⟩
theorem Only.set (w:World) (g j:Nat) (u:Value):Only [g] w (w.setCell ⟨g,j,none⟩ u) :=
 ⟨rfl,rfl,rfl,by simp,fun k _ hn=>Below.heap_setCell _ _ _ _ (by intro e; exact hn (by simp [e]))⟩
theorem Only.below {bs:List Nat} {w w':World} (h:Only bs w w') {B:Nat} (hB:B≤w.heap.size) (hs:∀b∈bs,B≤b):Below B w w' :=
 ⟨h.os,h.tape,h.output,h.size,fun k hk=>h.block k (by omega) (fun hb=>by have:=hs k hb; omega)⟩
theorem Only.kept {bs:List Nat} {w w':World} (h:Only bs w w') {i:Nat} {o:Obj} (hi:w.heap[i]?=some o) (hn:i∉bs):w'.heap[i]?=some o:=by
 rw [h.block i (Array.getElem?_eq_some_iff.1 hi).1 hn]; exact hi
theorem Only.own {bs:List Nat} {w w':World} {base:Nat} {e:TypeId} {size:Nat} {v:Value} {n:Nat} {xs:List Value} (h:Only bs w w') (ho:w.ownsRow base e size v n xs) (hn:∀k,v.ownBlock=some k→k∉bs):w'.ownsRow base e size v n xs:=by
 obtain ⟨hl,h0 | ⟨g,cap,cur,rfl,hg,hh,r⟩⟩:=ho
 ·exact ⟨hl,.inl h0⟩
 ·exact ⟨hl,.inr ⟨g,cap,cur,rfl,hg,h.kept hh (hn g rfl),r⟩⟩

theorem zbO {w w':World} {base:Nat} {e:TypeId} {size:Nat} {v:Value} {n:Nat} {xs:List Value} (h:w.ownsRow base e size v n xs) (hb:Below w.heap.size w w'):w'.ownsRow base e size v n xs :=
 (Only.of_below (bs:=[]) hb).own h (by intro k _ hk; cases hk)
theorem zlO {w:World} {base:Nat} {e:TypeId} {size:Nat} {v:Value} {n:Nat} {xs:List Value} (h:w.ownsRow base e size v n xs) {base':Nat} (hle:base'≤base):w.ownsRow base' e size v n xs:=by
 obtain ⟨hl,h | ⟨g,cap,cur,rfl,hg,r⟩⟩:=h
 ·exact ⟨hl,.inl h⟩
 ·exact ⟨hl,.inr ⟨g,cap,cur,rfl,by omega,r⟩⟩

theorem zb7 {w:World} {base base':Nat} {e e':TypeId} {s s':Nat} {v v':Value} {n n':Nat} {xs xs':List Value} (h:w.ownsRow base e s v n xs) (h':w.ownsRow base' e' s' v' n' xs') (hne:e≠e') {k:Nat} (hk:v.ownBlock=some k):v'.ownBlock≠some k:=by
 intro hk';rcases h.2 with ⟨rfl,_⟩ | ⟨g,cap,cur,rfl,_,hh,_⟩
 ·cases hk
 ·rcases h'.2 with ⟨rfl,_⟩ | ⟨g',cap',cur',rfl,_,hh',_⟩
  ·cases hk'
  ·simp only [Value.ownBlock,Option.some.injEq] at hk hk';subst hk hk';rw [hh] at hh';cases hh';exact hne rfl

theorem zE (n lo hi:Int) (w:World):Calls Tryz.prog 34 #[.int .i64 n,.int .i64 lo,.int .i64 hi] w fun e w'=>e=.returned (.bool (decide (lo≤n) && decide (n≤hi)))∧w'=w:=by
 by_cases h1:lo≤n
 ·by_cases h2:n≤hi
  ·rw [decide_eq_true h1,decide_eq_true h2];go_enter Tryz.func34,Tryz.ntmps34;go_wp2;go_ret;exact ⟨rfl,rfl⟩
  ·rw [decide_eq_true h1,decide_eq_false h2];go_enter Tryz.func34,Tryz.ntmps34;go_wp2;go_ret;exact ⟨rfl,rfl⟩
 ·rw [decide_eq_false h1,Bool.false_and];go_enter Tryz.func34,Tryz.ntmps34;go_wp2;go_ret;exact ⟨rfl,rfl⟩

theorem ziC {id:Int} {l:List PT} (port:Int):1≤zaI id l port∧zaI id l port≤4:=by
 unfold zaI
 split
 ·split
  ·unfold zcO
   repeat' split
   all_goals omega
  ·omega
 ·omega

def zcP (f:Nat→Bool):Nat→Int
 | 0=>0
 | k+1=>if f k=true then bits .or .i64 (zcP f k) (2 ^ k) else zcP f k

theorem ziF (id:Int) (l:List PT):∀k,zaZ id l k=zcP (fun i=>decide (zaI id l (i:Int)≤2)) k
 | 0=>rfl
 | k+1=>by
  rw [zaZ,zcP,ziF id l k]
  simp

theorem zfj (f g:Nat→Bool):∀k,(∀i,i < k→f i=g i)→zcP f k=zcP g k
 | 0,_=>rfl
 | k+1,h=>by
  rw [zcP,zcP,zfj f g k (fun i hi=>h i (by omega)),h k (by omega)]

def six (b0 b1 b2 b3 b4 b5:Bool):Nat→Bool
 | 0=>b0
 | 1=>b1
 | 2=>b2
 | 3=>b3
 | 4=>b4
 | _=>b5

def zab (n:Int):Int:=if n≥1000000 then n else n+1

def zaA (bits:Int) (l:List FE):Nat→List FE
 | 0=>l
 | k+1=>if bitOf bits (k:Int)=true then zaA bits l k else zY (zaA bits l k) (k:Int)

def turned (b:BR):BR:={ b with vers:=zab b.vers,f:=zaA (zbh b.id b.ports) b.f b.ports.length }

def zbr (b:BR) (port:Int):Bool:=zG b && (decide (0≤port) && decide (port≤(b.ports.length:Int) - 1))

def hearB (b:BR) (port:Int) (v:VD):BR :=
 if zbr b port=true then
  match b.ports[port.toNat]? with
  | some x=>if (x.up && okVd v)=true then turned { b with ports:=b.ports.set port.toNat ⟨x.up,x.k,true,v⟩ } else b
  | none=>b
 else b

def linkB (b:BR) (port:Int) (up:Bool):BR :=
 if zbr b port=true then
  match b.ports[port.toNat]? with
  | some x=>turned { b with ports:=b.ports.set port.toNat ⟨up,x.k,false,⟨0,0,0,0,0⟩⟩ }
  | none=>b
 else b

def tickB (b:BR):BR:=if zG b=true then turned { b with ticks:=zab b.ticks,f:=ageF b.f } else b

theorem zip (x:Int):in1m x=true↔0≤x∧x≤1000000:=by
 unfold in1m
 simp

theorem zfe {n:Int} (h:in1m n=true):in1m (zab n)=true:=by
 rw [zip] at *;unfold zab
 split <;> omega

theorem zdz (bits:Int) {l:List FE} (h:fdbOk l=true):∀k,fdbOk (zaA bits l k)=true
 | 0=>h
 | k+1=>by
  rw [zaA]
  split
  ·exact zdz bits h k
  ·exact zkX (zdz bits h k) _

theorem zcV (bits:Int) (l:List FE):∀k,(zaA bits l k).Sublist l
 | 0=>List.Sublist.refl _
 | k+1=>by
  rw [zaA]
  split
  ·exact zcV bits l k
  ·exact List.Sublist.trans List.filter_sublist (zcV bits l k)

theorem zaE {b:BR} (h:zG b=true):b.ports.all ptOk=true∧in3 b.id 1 99=true∧(b.name.size:Int)≤10∧in3 (b.ports.length:Int) 1 6=true∧fdbOk b.f=true∧zar b.v (b.ports.length:Int)=true∧in1m b.ticks=true∧in1m b.parse=true∧in1m b.word=true∧in1m b.drops=true∧in1m b.vers=true:=by
 unfold zG zal at h;simp only [Bool.and_eq_true,decide_eq_true_eq] at h;obtain ⟨h1,h2,h3,h4,h5,h6,h7,h8,h9,h10,h11⟩:=h;exact ⟨h1,h2,h3,h4,h5,h6,h7,h8,h9,h10,h11⟩

theorem zcU {b:BR} (h:b.ports.all ptOk=true∧in3 b.id 1 99=true∧(b.name.size:Int)≤10∧in3 (b.ports.length:Int) 1 6=true∧fdbOk b.f=true∧zar b.v (b.ports.length:Int)=true∧in1m b.ticks=true∧in1m b.parse=true∧in1m b.word=true∧in1m b.drops=true∧in1m b.vers=true):zG b=true:=by
 obtain ⟨h1,h2,h3,h4,h5,h6,h7,h8,h9,h10,h11⟩:=h;unfold zG zal;rw [h1,h2,decide_eq_true h3,h4,h5,h6,h7,h8,h9,h10,h11]
 rfl

theorem zeD {b:BR} (h:zG b=true):zG (turned b)=true:=by
 obtain ⟨h1,h2,h3,h4,h5,h6,h7,h8,h9,h10,h11⟩:=zaE h;exact zcU ⟨h1,h2,h3,h4,zdz _ h5 _,h6,h7,h8,h9,h10,zfe h11⟩

theorem ziB {b:BR} (h:zG b=true) {i:Nat} {y:PT} (hy:ptOk y=true):zG { b with ports:=b.ports.set i y }=true:=by
 obtain ⟨h1,h2,h3,h4,h5,h6,h7,h8,h9,h10,h11⟩:=zaE h;refine zcU ⟨?_,h2,h3, ?_,h5, ?_,h7,h8,h9,h10,h11⟩
 ·rw [List.all_eq_true] at h1 ⊢;intro x hx;rcases List.mem_or_eq_of_mem_set hx with hx | rfl
  ·exact h1 x hx
  ·exact hy
 ·simpa using h4
 ·simpa using h6

theorem zkd {b:BR} (h:zG b=true) {i:Nat} {x:PT} (hx:b.ports[i]?=some x):ptOk x=true:=by
 have h1:=(zaE h).1;rw [List.all_eq_true] at h1;exact h1 x (List.mem_of_getElem? hx)

theorem zlG {x:PT} {v:VD} (h:ptOk x=true) (hu:x.up=true) (hv:okVd v=true):ptOk ⟨x.up,x.k,true,v⟩=true:=by
 unfold ptOk at *;simp only [Bool.and_eq_true] at h
 simp [h.1,hu,hv]

theorem zlJ {x:PT} (up:Bool) (h:ptOk x=true):ptOk ⟨up,x.k,false,⟨0,0,0,0,0⟩⟩=true:=by
 unfold ptOk at *;simp only [Bool.and_eq_true] at h
 simp [h.1,zdQ]

theorem ziI {b:BR} {port:Int} (h:zbr b port=true):zG b=true:=by
 unfold zbr at h;simp only [Bool.and_eq_true] at h;exact h.1

theorem zkZ {b:BR} (h:zG b=true) (port:Int) (v:VD):zG (hearB b port v)=true:=by
 unfold hearB
 split
 ·split
  ·next x hx =>
   split
   ·next hu =>
    simp only [Bool.and_eq_true] at hu;exact zeD (ziB h (zlG (zkd h hx) hu.1 hu.2))
   ·exact h
  ·exact h
 ·exact h

theorem zk6 {b:BR} (h:zG b=true) (port:Int) (up:Bool):zG (linkB b port up)=true:=by
 unfold linkB
 split
 ·split
  ·next x hx=>exact zeD (ziB h (zlJ up (zkd h hx)))
  ·exact h
 ·exact h

theorem zlm {b:BR} (h:zG b=true):zG (tickB b)=true:=by
 unfold tickB;rw [if_pos h];obtain ⟨h1,h2,h3,h4,h5,h6,h7,h8,h9,h10,h11⟩:=zaE h;exact zeD (zcU ⟨h1,h2,h3,h4,zlZ h5,h6,zfe h7,h8,h9,h10,h11⟩)

theorem zfT (R C H B P:Int) (w:World) :
  Calls Tryz.prog 179 #[.agg #[.int .i64 R,.int .i64 C,.int .i64 H,.int .i64 B,.int .i64 P]] w fun e w'=>e=.returned (.agg #[.int .i64 R,.int .i64 C,.int .i64 H,.int .i64 B,.int .i64 P])∧Below w.heap.size w w':=by
 go_enter Tryz.func179,Tryz.ntmps179;go_wp2;exact bodyPost_ret (v:=.agg #[.int .i64 R,.int .i64 C,.int .i64 H,.int .i64 B,.int .i64 P]) (by simp [results,Tryz.results179,go_sem, *]) rfl ⟨rfl,zL _ _ _⟩

theorem zgG (R C H B P:Int) (w:World) :
  Calls Tryz.prog 179 #[.agg #[.int .i64 R,.int .i64 C,.int .i64 H,.int .i64 B,.int .i64 P]] w fun e w'=>e=.returned (.agg #[.int .i64 R,.int .i64 C,.int .i64 H,.int .i64 B,.int .i64 P]) ∧
   w'=(w.alloc (.cells #[.int .i64 R,.int .i64 C,.int .i64 H,.int .i64 B,.int .i64 P] 101)).alloc (.cells #[.int .i64 R,.int .i64 C,.int .i64 H,.int .i64 B,.int .i64 P] 220):=by
 go_enter Tryz.func179,Tryz.ntmps179;go_wp2;exact bodyPost_ret (v:=.agg #[.int .i64 R,.int .i64 C,.int .i64 H,.int .i64 B,.int .i64 P]) (by simp [results,Tryz.results179,go_sem, *]) rfl ⟨rfl,rfl⟩

theorem zkw (R C H B P:Int) (w:World) :
  Calls Tryz.prog 180 #[.agg #[.int .i64 R,.int .i64 C,.int .i64 H,.int .i64 B,.int .i64 P]] w fun e w'=>e=.returned (.agg #[.int .i64 R,.int .i64 C,.int .i64 H,.int .i64 B,.int .i64 P])∧Below w.heap.size w w':=by
 go_enter Tryz.func180,Tryz.ntmps180;go_wp2;exact bodyPost_ret (v:=.agg #[.int .i64 R,.int .i64 C,.int .i64 H,.int .i64 B,.int .i64 P]) (by simp [results,Tryz.results180,go_sem, *]) rfl ⟨rfl,zL _ _ _⟩

theorem zk0 (R C H B P:Int) (w:World):(Instr.index 220 (.agg #[.int .i64 R,.int .i64 C,.int .i64 H,.int .i64 B,.int .i64 P]) (.int .i64 0)).run Tryz.prog w=.ok (.int .i64 R) w:=by kernel_rfl
theorem zk1 (R C H B P:Int) (w:World):(Instr.index 220 (.agg #[.int .i64 R,.int .i64 C,.int .i64 H,.int .i64 B,.int .i64 P]) (.int .i64 1)).run Tryz.prog w=.ok (.int .i64 C) w:=by kernel_rfl
theorem zk2 (R C H B P:Int) (w:World):(Instr.index 220 (.agg #[.int .i64 R,.int .i64 C,.int .i64 H,.int .i64 B,.int .i64 P]) (.int .i64 2)).run Tryz.prog w=.ok (.int .i64 H) w:=by kernel_rfl
theorem zk3 (R C H B P:Int) (w:World):(Instr.index 220 (.agg #[.int .i64 R,.int .i64 C,.int .i64 H,.int .i64 B,.int .i64 P]) (.int .i64 3)).run Tryz.prog w=.ok (.int .i64 B) w:=by kernel_rfl
theorem zk4 (R C H B P:Int) (w:World):(Instr.index 220 (.agg #[.int .i64 R,.int .i64 C,.int .i64 H,.int .i64 B,.int .i64 P]) (.int .i64 4)).run Tryz.prog w=.ok (.int .i64 P) w:=by kernel_rfl

abbrev zl9:Array Value:=#[.int .i64 1,.int .i64 0,.int .i64 0,.int .i64 1,.int .i64 0]
abbrev mostC:Array Value:=#[.int .i64 99,.int .i64 100000,.int .i64 10,.int .i64 99,.int .i64 7]
abbrev endsC:Array Value:=#[.int .i64 1,.int .i64 0,.int .i64 0,.int .i64 1,.int .i64 0,.int .i64 99,.int .i64 100000,.int .i64 10,.int .i64 99,.int .i64 7]

def cl (n lo hi:Int):Int:=min (max n lo) hi

def nearC (R C H B P:Int) (k:Nat):Array Value :=
 #[.int .i64 (if 0 < k then cl R 1 99 else R),.int .i64 (if 1 < k then cl C 0 100000 else C),.int .i64 (if 2 < k then cl H 0 10 else H),.int .i64 (if 3 < k then cl B 1 99 else B),.int .i64 (if 4 < k then cl P 0 7 else P)]

theorem zjq {w:World} {C:Nat} {t:TypeId} {c0 c1 c2 c3 c4 c5 c6 c7 c8 c9:Value} (h:w.heap[C]?=some (.cells #[c0,c1,c2,c3,c4,c5,c6,c7,c8,c9] t)) :
  w.cell? ⟨C,0,none⟩=some c0∧w.cell? ⟨C,1,none⟩=some c1∧w.cell? ⟨C,2,none⟩=some c2∧w.cell? ⟨C,3,none⟩=some c3∧w.cell? ⟨C,4,none⟩=some c4∧w.cell? ⟨C,5,none⟩=some c5∧w.cell? ⟨C,6,none⟩=some c6∧w.cell? ⟨C,7,none⟩=some c7∧w.cell? ⟨C,8,none⟩=some c8∧w.cell? ⟨C,9,none⟩=some c9:=by
 refine ⟨?_, ?_, ?_, ?_, ?_, ?_, ?_, ?_, ?_, ?_⟩ <;> simp [World.cell?,h]

theorem zhM (R C H B P:Int) (w:World) :
  Calls Tryz.prog 155 #[.agg #[.int .i64 R,.int .i64 C,.int .i64 H,.int .i64 B,.int .i64 P]] w fun e w'=>e=.returned (.agg #[.int .i64 (cl R 1 99),.int .i64 (cl C 0 100000),.int .i64 (cl H 0 10),.int .i64 (cl B 1 99),.int .i64 (cl P 0 7)])∧Below w.heap.size w w':=by
 have q3:=zac w (.cells #[.int .i64 R,.int .i64 C,.int .i64 H,.int .i64 B,.int .i64 P] 101) (.cells #[.int .i64 0,.int .i64 0,.int .i64 0,.int .i64 0,.int .i64 0] 101) (.cells endsC 222);obtain ⟨k0,k1,k2⟩:=za0 (Below.refl _ (((w.alloc (.cells #[.int .i64 R,.int .i64 C,.int .i64 H,.int .i64 B,.int .i64 P] 101)).alloc (.cells #[.int .i64 0,.int .i64 0,.int .i64 0,.int .i64 0,.int .i64 0] 101)).alloc (.cells endsC 222)));have hn:(((w.alloc (.cells #[.int .i64 R,.int .i64 C,.int .i64 H,.int .i64 B,.int .i64 P] 101)).alloc (.cells #[.int .i64 0,.int .i64 0,.int .i64 0,.int .i64 0,.int .i64 0] 101)).alloc (.cells endsC 222)).heap.size=w.heap.size+3:=by simp
 have HQ:=hide q3;have HK0:=hide k0;have HK1:=hide k1;have HN:=hide hn;clear q3 k0 k1 hn;go_enter Tryz.func155,Tryz.ntmps155;go_upto_region 2 with fail
 generalize (((w.alloc (.cells #[.int .i64 R,.int .i64 C,.int .i64 H,.int .i64 B,.int .i64 P] 101)).alloc (.cells #[.int .i64 0,.int .i64 0,.int .i64 0,.int .i64 0,.int .i64 0] 101)).alloc (.cells endsC 222))=w3 at *;obtain ⟨x0,x1,x2,x3,x4,x5,x6,x7,x8,x9⟩:=zjq k2;have K2:=hide k2;clear k2
 go_cut [4,5] from 9 to 38 (fun s t wc=>∃p4 p5:Nat,s=.pointer (some ⟨p4,0,none⟩)∧t=.pointer (some ⟨p5,0,none⟩)∧wc.heap[p4]?=some (.cells zl9 220)∧wc.heap[p5]?=some (.cells mostC 220)∧¬p4=p5∧w3.heap.size≤p4∧w3.heap.size≤p5∧Below w3.heap.size w3 wc)
 case first =>
  go_region_held3 (fun W=>W.cell? ⟨w.heap.size+1+1,0,none⟩=some (.int .i64 1)∧W.cell? ⟨w.heap.size+1+1,1,none⟩=some (.int .i64 0)∧W.cell? ⟨w.heap.size+1+1,2,none⟩=some (.int .i64 0)∧W.cell? ⟨w.heap.size+1+1,3,none⟩=some (.int .i64 1)∧W.cell? ⟨w.heap.size+1+1,4,none⟩=some (.int .i64 0)∧W.cell? ⟨w.heap.size+1+1,5,none⟩=some (.int .i64 99)∧W.cell? ⟨w.heap.size+1+1,6,none⟩=some (.int .i64 100000)∧W.cell? ⟨w.heap.size+1+1,7,none⟩=some (.int .i64 10)∧W.cell? ⟨w.heap.size+1+1,8,none⟩=some (.int .i64 99)∧W.cell? ⟨w.heap.size+1+1,9,none⟩=some (.int .i64 7))
   (first | assumption | exact zjq (za K2.out (by repeat (first | exact Below.refl _ _ | refine zp ?_ | refine zce ?_ _))) | go_keep) (first
   | (go_at_call 179; refine (zgG _ _ _ _ _ _).mono ?_; rintro e wx ⟨rfl,rfl⟩))
  all_goals
   (go_wp2_with fail)
   go_meet
   refine ⟨_,_,rfl,rfl,by repeat (first | (refine zib ?_; simp; done) | refine za ?_ (zl _ _) | refine zbj ?_),by repeat (first | (refine zib ?_; simp; done) | refine za ?_ (zl _ _) | refine zbj ?_),by omega,by omega,by omega,by repeat (first | exact Below.refl _ _ | refine zp ?_ | refine zce ?_ _)⟩
 case rest =>
  obtain ⟨p4,p5,rfl,rfl,h4,h5,hne,hp4,hp5,hbc⟩:=hcut;have hn:=HN.out;have hsz:=hbc.size;obtain ⟨⟨v0,v1,v2,v3,v4⟩,-⟩:=zC (za HK0.out hbc);clear x0 x1 x2 x3 x4 x5 x6 x7 x8 x9;(go_wp2_with fail);refine (zfT R C H B P _).mono ?_;rintro e w6 ⟨rfl,hb6⟩;have hs6:=hb6.size;have q6:=zc hbc hb6;have k4:=za (za h4 hb6) (zl w6 (.cells #[.int .i64 R,.int .i64 C,.int .i64 H,.int .i64 B,.int .i64 P] 220));have k5:=za (za h5 hb6) (zl w6 (.cells #[.int .i64 R,.int .i64 C,.int .i64 H,.int .i64 B,.int .i64 P] 220));have k6:=zr w6 (.cells #[.int .i64 R,.int .i64 C,.int .i64 H,.int .i64 B,.int .i64 P] 220);have k1:=za (za HK1.out q6) (zl w6 (.cells #[.int .i64 R,.int .i64 C,.int .i64 H,.int .i64 B,.int .i64 P] 220));have hq:=HQ.out;have lt4:p4 < w6.heap.size:=(Array.getElem?_eq_some_iff.1 (za h4 hb6)).1;have lt5:p5 < w6.heap.size:=(Array.getElem?_eq_some_iff.1 (za h5 hb6)).1;clear v0 v1 v2 v3 v4 hb6;(go_wp2_with fail)
  go_loopw [21] (fun i wr=>∃k:Nat,k≤5∧i=.int .i64 k∧wr.heap[w6.heap.size]?=some (.cells (nearC R C H B P k) 220)∧(w6.alloc (.cells #[.int .i64 R,.int .i64 C,.int .i64 H,.int .i64 B,.int .i64 P] 220)).grownBy wr (some w6.heap.size)) (fun i _=>5 - (intOf i).toNat)
  case atStart=>exact ⟨0,Nat.zero_le _,rfl,k6,World.grownBy.refl _ _⟩
  case round =>
   obtain ⟨k,hk,hi,hc6,hg⟩:=hrel;have c4:=ze k4 hg (by intro j e; cases e; omega);have c5:=ze k5 hg (by intro j e; cases e; omega);have c1:=ze k1 hg (by intro j e; cases e; omega);have HG:=hide hg;obtain ⟨⟨y0,y1,y2,y3,y4⟩,-⟩:=zC c4;obtain ⟨⟨z0,z1,z2,z3,z4⟩,-⟩:=zC c5;have H6:=hide hc6;have H1:=hide c1;clear c4 c5 k4 k5 k6 k1 h4 h5 hg c1 hc6;rcases (show k=0∨k=1∨k=2∨k=3∨k=4∨k=5 by omega) with rfl | rfl | rfl | rfl | rfl | rfl
   ·have hi:_=Value.int .i64 0:=hi;subst hi;have h6:wr.heap[w6.heap.size]?=some (.cells #[.int .i64 R,.int .i64 C,.int .i64 H,.int .i64 B,.int .i64 P] 220):=H6.out;obtain ⟨⟨u0,u1,u2,u3,u4⟩,f0,f1,f2,f3,f4⟩:=zC h6;clear h6;have ix:=zk0 R C H B P wr;(go_wp2_with fail)
    go_region
    go_wp2
    go_roundw
    case rel =>
     refine ⟨0+1,by omega,by go_num, ?_,zz (zz HG.out (zg _ _)) (zcf (zp (Below.refl _ _)))⟩
     have:=zJ (j:=0) H6.out (.int .i64 (cl R 1 99))
     exact zbj this
    case measure=>simp [intOf]
   ·have hi:_=Value.int .i64 1:=hi;subst hi;have h6:wr.heap[w6.heap.size]?=some (.cells #[.int .i64 (cl R 1 99),.int .i64 C,.int .i64 H,.int .i64 B,.int .i64 P] 220):=H6.out;obtain ⟨⟨u0,u1,u2,u3,u4⟩,f0,f1,f2,f3,f4⟩:=zC h6;clear h6;have ix:=zk1 R C H B P wr;(go_wp2_with fail)
    go_region
    go_wp2
    go_roundw
    case rel =>
     refine ⟨1+1,by omega,by go_num, ?_,zz (zz HG.out (zg _ _)) (zcf (zp (Below.refl _ _)))⟩
     have:=zJ (j:=1) H6.out (.int .i64 (cl C 0 100000))
     exact zbj this
    case measure=>simp [intOf]
   ·have hi:_=Value.int .i64 2:=hi;subst hi;have h6:wr.heap[w6.heap.size]?=some (.cells #[.int .i64 (cl R 1 99),.int .i64 (cl C 0 100000),.int .i64 H,.int .i64 B,.int .i64 P] 220):=H6.out;obtain ⟨⟨u0,u1,u2,u3,u4⟩,f0,f1,f2,f3,f4⟩:=zC h6;clear h6;have ix:=zk2 R C H B P wr;(go_wp2_with fail)
    go_region
    go_wp2
    go_roundw
    case rel =>
     refine ⟨2+1,by omega,by go_num, ?_,zz (zz HG.out (zg _ _)) (zcf (zp (Below.refl _ _)))⟩
     have:=zJ (j:=2) H6.out (.int .i64 (cl H 0 10))
     exact zbj this
    case measure=>simp [intOf]
   ·have hi:_=Value.int .i64 3:=hi;subst hi;have h6:wr.heap[w6.heap.size]?=some (.cells #[.int .i64 (cl R 1 99),.int .i64 (cl C 0 100000),.int .i64 (cl H 0 10),.int .i64 B,.int .i64 P] 220):=H6.out;obtain ⟨⟨u0,u1,u2,u3,u4⟩,f0,f1,f2,f3,f4⟩:=zC h6;clear h6;have ix:=zk3 R C H B P wr;(go_wp2_with fail)
    go_region
    go_wp2
    go_roundw
    case rel =>
     refine ⟨3+1,by omega,by go_num, ?_,zz (zz HG.out (zg _ _)) (zcf (zp (Below.refl _ _)))⟩
     have:=zJ (j:=3) H6.out (.int .i64 (cl B 1 99))
     exact zbj this
    case measure=>simp [intOf]
   ·have hi:_=Value.int .i64 4:=hi;subst hi;have h6:wr.heap[w6.heap.size]?=some (.cells #[.int .i64 (cl R 1 99),.int .i64 (cl C 0 100000),.int .i64 (cl H 0 10),.int .i64 (cl B 1 99),.int .i64 P] 220):=H6.out;obtain ⟨⟨u0,u1,u2,u3,u4⟩,f0,f1,f2,f3,f4⟩:=zC h6;clear h6;have ix:=zk4 R C H B P wr;(go_wp2_with fail)
    go_region
    go_wp2
    go_roundw
    case rel =>
     refine ⟨4+1,by omega,by go_num, ?_,zz (zz HG.out (zg _ _)) (zcf (zp (Below.refl _ _)))⟩
     have:=zJ (j:=4) H6.out (.int .i64 (cl P 0 7))
     exact zbj this
    case measure=>simp [intOf]
   ·have hi:_=Value.int .i64 5:=hi;subst hi;have h6:wr.heap[w6.heap.size]?=some (.cells #[.int .i64 (cl R 1 99),.int .i64 (cl C 0 100000),.int .i64 (cl H 0 10),.int .i64 (cl B 1 99),.int .i64 (cl P 0 7)] 220):=H6.out;obtain ⟨⟨u0,u1,u2,u3,u4⟩,f0,f1,f2,f3,f4⟩:=zC h6;clear h6;(go_wp2_with fail);refine (zkw (cl R 1 99) (cl C 0 100000) (cl H 0 10) (cl B 1 99) (cl P 0 7) _).mono ?_;rintro e w9 ⟨rfl,hb9⟩;obtain ⟨⟨t0,t1,t2,t3,t4⟩,g0,g1,g2,g3,g4⟩:=zC (za H1.out hb9);have b9:=zc hq (zc q6 (zc (zly (zl w6 _) HG.out (Nat.le_refl _)) hb9));have HB:=hide b9;clear u0 u1 u2 u3 u4 f0 f1 f2 f3 f4 hb9 b9;go_wp2;exact bodyPost_ret (v:=.agg #[.int .i64 (cl R 1 99),.int .i64 (cl C 0 100000),.int .i64 (cl H 0 10),.int .i64 (cl B 1 99),.int .i64 (cl P 0 7)]) (by simp [results,Tryz.results155,go_sem, *]) rfl ⟨rfl,zad HB.out (by omega) _ _ _ _ _⟩

theorem zd5 (n lo hi:Int) (h:lo≤hi):(n == cl n lo hi)=(decide (lo≤n) && decide (n≤hi)):=by
 unfold cl;rw [Bool.eq_iff_iff]
 simp
 omega

theorem zj7 (R C H B P:Int):((R == cl R 1 99) && ((C == cl C 0 100000) && ((H == cl H 0 10) && ((B == cl B 1 99) && (P == cl P 0 7)))))=okVc R C H B P:=by
 rw [zj6,zd5 _ _ _ (by omega),zd5 _ _ _ (by omega),zd5 _ _ _ (by omega),zd5 _ _ _ (by omega),zd5 _ _ _ (by omega)]

theorem zaB (R C H B P:Int) (w:World) :
  Calls Tryz.prog 122 #[.agg #[.int .i64 R,.int .i64 C,.int .i64 H,.int .i64 B,.int .i64 P]] w fun e w'=>e=.returned (.bool (okVc R C H B P))∧Below w.heap.size w w':=by
 have k0:=zr w (.cells #[.int .i64 R,.int .i64 C,.int .i64 H,.int .i64 B,.int .i64 P] 101);have q0:=zl w (.cells #[.int .i64 R,.int .i64 C,.int .i64 H,.int .i64 B,.int .i64 P] 101);have he:∀W,(binOp .eql 101 (.agg #[.int .i64 R,.int .i64 C,.int .i64 H,.int .i64 B,.int .i64 P]) (.agg #[.int .i64 (cl R 1 99),.int .i64 (cl C 0 100000),.int .i64 (cl H 0 10),.int .i64 (cl B 1 99),.int .i64 (cl P 0 7)])).run Tryz.prog W=.ok (.bool (okVc R C H B P)) W:=fun W=>by rw [zh7,zj7]
 have hgd:Tryz.prog.eqGuardType Tryz.prog.depth 101=false:=by kernel_rfl
 generalize okVc R C H B P=Q at *;go_enter Tryz.func122,Tryz.ntmps122;go_wp2_with fail
 generalize (w.alloc (.cells #[.int .i64 R,.int .i64 C,.int .i64 H,.int .i64 B,.int .i64 P] 101))=wb at *;obtain ⟨⟨x0,x1,x2,x3,x4⟩,-⟩:=zC k0;have K0:=hide k0;clear k0
 go_region_held3 (fun W=>W.cell? ⟨w.heap.size,0,none⟩=some (.int .i64 R)∧W.cell? ⟨w.heap.size,1,none⟩=some (.int .i64 C)∧W.cell? ⟨w.heap.size,2,none⟩=some (.int .i64 H)∧W.cell? ⟨w.heap.size,3,none⟩=some (.int .i64 B)∧W.cell? ⟨w.heap.size,4,none⟩=some (.int .i64 P)) (first | assumption | exact (zC k1).1 | go_keep) (first
  | (go_at_call 155; refine (zhM R C H B P _).mono ?_; rintro e w1 ⟨rfl,hb1⟩; have k1:=za K0.out (undrew hb1)))
 go_wp2;go_ret;exact ⟨rfl,zc q0 (undrew hb1)⟩

theorem zek (R C H B P k:Int) (w:World) :
  Calls Tryz.prog 201 #[.agg #[.int .i64 R,.int .i64 C,.int .i64 H,.int .i64 B,.int .i64 P],.int .i64 k] w fun e w'=>e=.returned (.tuple #[if zbq R C H B P k=true then .agg #[.int .i64 R,.int .i64 (C+k),.int .i64 (H+1),.int .i64 B,.int .i64 P] else .agg #[.int .i64 R,.int .i64 C,.int .i64 H,.int .i64 B,.int .i64 P],.bool (zbq R C H B P k)])∧Below w.heap.size w w':=by
 cases t1:okVc R C H B P
 ·have e:zbq R C H B P k=false:=by unfold zbq; rw [t1]; rfl
  rw [e,if_neg (by simp)];have T1:=hide t1;clear e t1;go_enter Tryz.func201,Tryz.ntmps201;(go_wp2_with fail);refine (zaB R C H B P _).mono ?_;rintro e w1 ⟨rfl,hb1⟩;rw [T1.out];have q3:=zc (zac w _ _ _) hb1;obtain ⟨k0,k1,k2⟩:=za0 hb1;obtain ⟨⟨x0,x1,x2,x3,x4⟩,f0,f1,f2,f3,f4⟩:=zC k0;obtain ⟨⟨y0,y1,y2,y3,y4⟩,g0,g1,g2,g3,g4⟩:=zC k1;have HB:=hide q3;have K1:=hide k1;have K2:=hide k2;have K0:=hide k0;clear hb1 k0 k1 k2 q3;go_wp2;exact bodyPost_ret (v:=.tuple #[.agg #[.int .i64 R,.int .i64 C,.int .i64 H,.int .i64 B,.int .i64 P],.bool false]) (by simp [results,Tryz.results201,go_sem, *]) rfl ⟨rfl,zad HB.out (by omega) _ _ _ _ _⟩
 cases t2:(decide (1≤k) && decide (k≤1000))
 ·have e:zbq R C H B P k=false:=by unfold zbq; rw [t1,t2]; rfl
  rw [e,if_neg (by simp)];have T1:=hide t1;have T2:=hide t2;clear e t1 t2;go_enter Tryz.func201,Tryz.ntmps201;(go_wp2_with fail);refine (zaB R C H B P _).mono ?_;rintro e w1 ⟨rfl,hb1⟩;rw [T1.out];have q3:=zc (zac w _ _ _) hb1;obtain ⟨k0,k1,k2⟩:=za0 hb1;obtain ⟨⟨x0,x1,x2,x3,x4⟩,f0,f1,f2,f3,f4⟩:=zC k0;obtain ⟨⟨y0,y1,y2,y3,y4⟩,g0,g1,g2,g3,g4⟩:=zC k1;have HB:=hide q3;have K1:=hide k1;have K2:=hide k2;have K0:=hide k0;clear hb1 k0 k1 k2 q3;(go_wp2_with fail);refine (zE k 1 1000 _).mono ?_;rintro e w2 ⟨rfl,rfl⟩;rw [T2.out];go_wp2;exact bodyPost_ret (v:=.tuple #[.agg #[.int .i64 R,.int .i64 C,.int .i64 H,.int .i64 B,.int .i64 P],.bool false]) (by simp [results,Tryz.results201,go_sem, *]) rfl ⟨rfl,zad HB.out (by omega) _ _ _ _ _⟩
 obtain ⟨-,o2,o3,-,-⟩:=zfd t1;have hk:1≤k∧k≤1000:=by simpa using t2
 have es:zbq R C H B P k=okVc R (C+k) (H+1) B P:=by unfold zbq; rw [t1,t2]; rfl
 rw [es];clear es;cases t3:okVc R (C+k) (H+1) B P
 ·rw [if_neg (by simp)];have T1:=hide t1;have T2:=hide t2;have T3:=hide t3;clear t1 t2 t3;go_enter Tryz.func201,Tryz.ntmps201;(go_wp2_with fail);refine (zaB R C H B P _).mono ?_;rintro e w1 ⟨rfl,hb1⟩;rw [T1.out];have q3:=zc (zac w _ _ _) hb1;obtain ⟨k0,k1,k2⟩:=za0 hb1;obtain ⟨⟨x0,x1,x2,x3,x4⟩,f0,f1,f2,f3,f4⟩:=zC k0;obtain ⟨⟨y0,y1,y2,y3,y4⟩,g0,g1,g2,g3,g4⟩:=zC k1;have HB:=hide q3;have K1:=hide k1;have K2:=hide k2;have K0:=hide k0;clear hb1 k0 k1 k2 q3;(go_wp2_with fail);refine (zE k 1 1000 _).mono ?_;rintro e w2 ⟨rfl,rfl⟩;rw [T2.out];obtain ⟨⟨z0,z1,z2,z3,z4⟩,-⟩:=zC K2.out;(go_wp2_with fail);refine (zaB R (C+k) (H+1) B P _).mono ?_;rintro e w3 ⟨rfl,hb3⟩;rw [T3.out];clear x0 x1 x2 x3 x4 f0 f1 f2 f3 f4 y0 y1 y2 y3 y4 g0 g1 g2 g3 g4 z0 z1 z2 z3 z4;obtain ⟨⟨x0,x1,x2,x3,x4⟩,f0,f1,f2,f3,f4⟩:=zC (za K0.out hb3);obtain ⟨⟨y0,y1,y2,y3,y4⟩,g0,g1,g2,g3,g4⟩:=zC (za K1.out hb3);have HB:=hide (zc HB.out hb3);clear hb3;go_wp2;exact bodyPost_ret (v:=.tuple #[.agg #[.int .i64 R,.int .i64 C,.int .i64 H,.int .i64 B,.int .i64 P],.bool false]) (by simp [results,Tryz.results201,go_sem, *]) rfl ⟨rfl,zad HB.out (by omega) _ _ _ _ _⟩
 ·rw [if_pos rfl];have T1:=hide t1;have T2:=hide t2;have T3:=hide t3;clear t1 t2 t3;go_enter Tryz.func201,Tryz.ntmps201;(go_wp2_with fail);refine (zaB R C H B P _).mono ?_;rintro e w1 ⟨rfl,hb1⟩;rw [T1.out];have q3:=zc (zac w _ _ _) hb1;obtain ⟨k0,k1,k2⟩:=za0 hb1;obtain ⟨⟨x0,x1,x2,x3,x4⟩,f0,f1,f2,f3,f4⟩:=zC k0;obtain ⟨⟨y0,y1,y2,y3,y4⟩,g0,g1,g2,g3,g4⟩:=zC k1;have HB:=hide q3;have K1:=hide k1;have K2:=hide k2;have K0:=hide k0;clear hb1 k0 k1 k2 q3;(go_wp2_with fail);refine (zE k 1 1000 _).mono ?_;rintro e w2 ⟨rfl,rfl⟩;rw [T2.out];obtain ⟨⟨z0,z1,z2,z3,z4⟩,-⟩:=zC K2.out;(go_wp2_with fail);refine (zaB R (C+k) (H+1) B P _).mono ?_;rintro e w3 ⟨rfl,hb3⟩;rw [T3.out];clear x0 x1 x2 x3 x4 f0 f1 f2 f3 f4 y0 y1 y2 y3 y4 g0 g1 g2 g3 g4 z0 z1 z2 z3 z4;obtain ⟨⟨x0,x1,x2,x3,x4⟩,f0,f1,f2,f3,f4⟩:=zC (za K2.out hb3);obtain ⟨⟨y0,y1,y2,y3,y4⟩,g0,g1,g2,g3,g4⟩:=zC (za K1.out hb3);have HB:=hide (zc HB.out hb3);clear hb3;go_wp2;exact bodyPost_ret (v:=.tuple #[.agg #[.int .i64 R,.int .i64 (C+k),.int .i64 (H+1),.int .i64 B,.int .i64 P],.bool true]) (by simp [results,Tryz.results201,go_sem, *]) rfl ⟨rfl,zad HB.out (by omega) _ _ _ _ _⟩

end Go.Proofs.YtpaneiaflfegoaaGreat
