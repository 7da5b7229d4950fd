/-
  The law file's own helpers on entries by their contracts: a copy, whether two lists are the same, their size, the marks that are put and read again. (Typed ahead of the landing: not built yet.)
-/
import Derived.Test.YtcpdkcdfnpcemaaGreatPHK02
namespace Go.Proofs.YtcpdkcdfnpcemaaGreat
set_option maxRecDepth 100000
set_option maxHeartbeats 16000000
open Go.RowKit

theorem zfO (e:FE) (w:World) :
  Calls Tryz.prog 172 #[.agg #[.int .i64 e.t,.int .i64 e.m,.int .i64 e.p,.int .i64 e.a,.bool e.s]] w fun r w'=>r=.returned (.agg #[.int .i64 e.t,.int .i64 e.m,.int .i64 e.p,.int .i64 e.a,.bool e.s])∧Below w.heap.size w w':=by
 go_enter Tryz.func172,Tryz.ntmps172;go_wp2;exact bodyPost_ret (v:=.agg #[.int .i64 e.t,.int .i64 e.m,.int .i64 e.p,.int .i64 e.a,.bool e.s]) (by simp [results,Tryz.results172,go_sem, *]) rfl ⟨rfl,zar _ _ _ _⟩

theorem zgZ:(Tryz.prog.info? 116).map (fun i=>(i.zero,i.size,i.bytes))=some (some (.agg #[.int .i64 0,.int .i64 0,.int .i64 0,.int .i64 0,.bool false]),5,40):=by kernel_rfl

def FE.zero:FE:=⟨0,0,0,0,false⟩

theorem at5h {w w':World} {b off n cap:Nat} {l:List FE} (h:GRow fentF w (some ⟨b,off,none⟩) n cap l) (hb:Below w.heap.size w w') {i:Nat} {x:FE} (hx:l[i]? = some x) :
  w'.cell? ⟨b,off+i*5,none⟩=some (.int .i64 x.t)∧w'.cell? ⟨b,off+i*5+1,none⟩=some (.int .i64 x.m)∧w'.cell? ⟨b,off+i*5+2,none⟩=some (.int .i64 x.p)∧w'.cell? ⟨b,off+i*5+3,none⟩=some (.int .i64 x.a)∧w'.cell? ⟨b,off+i*5+4,none⟩=some (.bool x.s):=by
 have hi:i < n:=by
  have:=(List.getElem?_eq_some_iff.1 hx).1
  have:=h.size
  omega
 obtain ⟨y,b',off',hy,e,c⟩:=zaP (h.below hb) i hi;cases e;rw [hx] at hy;cases hy;exact c

theorem zfZ {w:World} {base g n cap:Nat} {pre post:List FE} {x y:FE} (h:w.ownsRow base 116 5 (.slice (some ⟨g,0,none⟩) n cap) n (fentF.all (pre++x::post))) :
  (((((w.setCell ⟨g,pre.length*5,none⟩ (.int .i64 y.t)).setCell ⟨g,pre.length*5+1,none⟩ (.int .i64 y.m)).setCell ⟨g,pre.length*5+2,none⟩ (.int .i64 y.p)).setCell ⟨g,pre.length*5+3,none⟩ (.int .i64 y.a)).setCell ⟨g,pre.length*5+4,none⟩ (.bool y.s)).ownsRow base 116 5 (.slice (some ⟨g,0,none⟩) n cap) n (fentF.all (pre++y::post)):=by
 have R0:=zR (F:=fentF) (x':=⟨y.t,x.m,x.p,x.a,x.s⟩) h 0 (.int .i64 y.t) (by decide) rfl;have R1:=zR (F:=fentF) (x':=⟨y.t,y.m,x.p,x.a,x.s⟩) R0 1 (.int .i64 y.m) (by decide) rfl;have R2:=zR (F:=fentF) (x':=⟨y.t,y.m,y.p,x.a,x.s⟩) R1 2 (.int .i64 y.p) (by decide) rfl;have R3:=zR (F:=fentF) (x':=⟨y.t,y.m,y.p,y.a,x.s⟩) R2 3 (.int .i64 y.a) (by decide) rfl;exact zR (F:=fentF) (x':=y) R3 4 (.bool y.s) (by decide) rfl

theorem zdU {w:World} {g:Nat} (j0 j1 j2 j3 j4:Nat) (u0 u1 u2 u3 u4:Value):w.grownBy (((((w.setCell ⟨g,j0,none⟩ u0).setCell ⟨g,j1,none⟩ u1).setCell ⟨g,j2,none⟩ u2).setCell ⟨g,j3,none⟩ u3).setCell ⟨g,j4,none⟩ u4) (some g) :=
 zA (zA (zA (zA (zl _ _) (zl _ _)) (zl _ _)) (zl _ _)) (zl _ _)

theorem zdS {w:World} {base g n cap:Nat} {T:TypeId} {l:List FE} (h:w.ownsRow base T 5 (.slice (some ⟨g,0,none⟩) n cap) n (fentF.all l)) {i:Nat} {x:FE} (hx:l[i]? = some x) :
  (w.cell? ⟨g,i*5,none⟩=some (.int .i64 x.t)∧w.cell? ⟨g,i*5+1,none⟩=some (.int .i64 x.m)∧w.cell? ⟨g,i*5+2,none⟩=some (.int .i64 x.p)∧w.cell? ⟨g,i*5+3,none⟩=some (.int .i64 x.a)∧w.cell? ⟨g,i*5+4,none⟩=some (.bool x.s)) ∧
  (w.frozen? ⟨g,i*5,none⟩=false∧w.frozen? ⟨g,i*5+1,none⟩=false∧w.frozen? ⟨g,i*5+2,none⟩=false∧w.frozen? ⟨g,i*5+3,none⟩=false∧w.frozen? ⟨g,i*5+4,none⟩=false):=by
 have c0:=zac (F:=fentF) h hx (j:=0) (v:=.int .i64 x.t) rfl;have c1:=zac (F:=fentF) h hx (j:=1) (v:=.int .i64 x.m) rfl;have c2:=zac (F:=fentF) h hx (j:=2) (v:=.int .i64 x.p) rfl;have c3:=zac (F:=fentF) h hx (j:=3) (v:=.int .i64 x.a) rfl;have c4:=zac (F:=fentF) h hx (j:=4) (v:=.bool x.s) rfl;exact ⟨⟨c0.1,c1.1,c2.1,c3.1,c4.1⟩,c0.2,c1.2,c2.2,c3.2,c4.2⟩

theorem zfc (ao:Option Addr) (n c:Nat) (l:List FE) (w:World) (hl:GRow fentF w ao n c l) (hs:n≤1048576) :
  Calls Tryz.prog 92 #[.slice ao n c] w fun r w'=>∃ao' cap,r=.returned (.slice ao' n cap)∧w'.ownsRow w.heap.size 116 5 (.slice ao' n cap) n (fentF.all l)∧GRow fentF w' ao' n cap l∧Below w.heap.size w w':=by
 obtain ⟨i0,hi,hz0,hz1,hz2⟩:=za3 zgZ;have s1:=hl.size;go_enter Tryz.func92,Tryz.ntmps92;go_wp2_with (at_make; refine wpList_make_full _ rfl _ _ 25 rfl w.heap.size 116 i0 (.agg #[.int .i64 0,.int .i64 0,.int .i64 0,.int .i64 0,.bool false]) 5 Tryz.underlying25 hi hz0 hz1 .i64 .i64 _ _ n rfl rfl rfl rfl ?c1 ?c2 ?c3 ?_)
 case c1=>rw [hz2]; omega
 case c2=>unfold maxLen; omega
 case c3=>exact Nat.le_refl _
 intro w1 hown hgrow;have hb1:Below w.heap.size w w1:=(Below.refl _ _).grown hgrow (Nat.le_refl _) (by intro k hk; cases hk);have hown1:w1.ownsRow w.heap.size 116 5 (.slice (some ⟨w.heap.size,0,none⟩) n n) n (fentF.all (l.take 0++List.replicate (n - 0) FE.zero)):=by
  rw [List.take_zero,List.nil_append,Nat.sub_zero,← zde]; exact hown
 clear hown hgrow hi hz0 hz1 hz2;go_wp2
 go_loopw [4] (fun i wr=>∃k:Nat,k≤n∧i=.int .i64 k∧wr.ownsRow w.heap.size 116 5 (.slice (some ⟨w.heap.size,0,none⟩) n n) n (fentF.all (l.take k++List.replicate (n - k) FE.zero))∧Below w.heap.size w wr) (fun i _=>n - (intOf i).toNat)
 case atStart=>exact ⟨0,Nat.zero_le _,rfl,hown1,hb1⟩
 case round =>
  obtain ⟨k,hk,rfl,ho,hb⟩:=hrel;clear hown1 hb1;by_cases hlt:k < n
  ·obtain ⟨x,b,off,hx,rfl,a0,a1,a2,a3,a4⟩:=zaP (hl.below hb) k hlt;have hrep:List.replicate (n - k) FE.zero=FE.zero::List.replicate (n - (k+1)) FE.zero:=by rw [← List.replicate_succ]; congr 1; omega
   have hlk:(l.take k).length=k:=by rw [List.length_take]; omega
   rw [hrep] at ho;have htk:l.take (k+1)=l.take k++[x]:=by rw [List.take_add_one,hx]; rfl
   have HTK:=hide htk;have HB:=hide hb;have HO:=hide ho;have HX:=hide hx;clear hb ho htk hx;(go_wp2_with fail);refine (zfO x _).mono ?_;rintro r w2 ⟨rfl,hb2⟩;have ho2:=zm HO.out hb2;have hz:(l.take k++FE.zero::List.replicate (n - (k+1)) FE.zero)[k]? = some FE.zero:=by rw [List.getElem?_append_right (by omega),hlk,Nat.sub_self]; rfl
   obtain ⟨⟨t0,t1,t2,t3,t4⟩,f0,f1,f2,f3,f4⟩:=zdS ho2 hz;have o3:=zfZ (y:=x) ho2;rw [hlk] at o3;have HO3:=hide o3;have hb3:=zd HB.out hb2;have HB3:=hide (hb3.grown (zdU (w:=w2) (g:=w.heap.size) (k*5) (k*5+1) (k*5+2) (k*5+3) (k*5+4) (.int .i64 x.t) (.int .i64 x.m) (.int .i64 x.p) (.int .i64 x.a) (.bool x.s)) hb3.size (by intro j e; cases e; exact Nat.le_refl _));clear ho2 hb2 hb3 o3 hz a0 a1 a2 a3 a4;go_wp2
   go_roundw
   case rel=>exact ⟨k+1,by omega,by go_num,by rw [HTK.out,List.append_assoc]; exact HO3.out,HB3.out⟩
   case measure=>simp [intOf]; omega
  ·have hkn:k=n:=by omega
   subst hkn;rw [Nat.sub_self,List.take_of_length_le (by omega),List.replicate_zero,List.append_nil] at ho;have HO:=hide ho;have HR:=hide (zab ho);have HB:=hide hb;clear ho hb;go_wp2;go_ret;exact ⟨_,_,rfl,HO.out,HR.out,HB.out⟩

theorem zfk (e:FE) (w:World) :
  Calls Tryz.prog 178 #[.agg #[.int .i64 e.t,.int .i64 e.m,.int .i64 e.p,.int .i64 e.a,.bool e.s],.agg #[.int .i64 e.t,.int .i64 e.m,.int .i64 e.p,.int .i64 e.a,.bool e.s]] w fun r w'=>r=.returned (.bool true)∧Below w.heap.size w w':=by
 go_enter Tryz.func178,Tryz.ntmps178;go_wp2;go_ret;exact ⟨rfl,zz _ _ _⟩

theorem zfK (ao:Option Addr) (n c:Nat) (left:Int) (w:World) (hl:n≤maxLen) (h0:0≤left) (h1:left≤1048576) :
  Calls Tryz.prog 85 #[.slice ao n c,.int .i64 left] w fun r w'=>r=.returned (.int .i64 (if (n:Int)≤left then left - n else -1))∧w'=w:=by
 unfold maxLen at hl;go_enter Tryz.func85,Tryz.ntmps85;go_wp2
 all_goals go_ret
 all_goals exact ⟨rfl,rfl⟩

def markE (k:Int):FE:=⟨k,k+1,k+1+1,k+1+1+1,(k+1+1+1+1) % 3 == 0⟩
def zbt (k:Int) (n:Nat):List FE:=(List.range n).map fun (i:Nat)=>markE (k+5*i)

theorem zeh (k:Int) (n:Nat):(zbt k n).length=n:=by simp [zbt]
theorem zfu (k:Int) (j:Nat):zbt k (j+1)=zbt k j++[markE (k+5*j)]:=by simp [zbt,List.range_succ]
theorem zi5 (k:Int) (n j:Nat) (h:j < n):(zbt k n)[j]? = some (markE (k+5*j)):=by simp [zbt,List.getElem?_map,List.getElem?_range h]

theorem zeR (base g n cap:Nat) (l:List FE) (k:Int) (w:World) (hown:w.ownsRow base 116 5 (.slice (some ⟨g,0,none⟩) n cap) n (fentF.all l)) (hn:n≤16777216) (hk0:0≤k) (hk1:k≤1099511627776) :
  Calls Tryz.prog 99 #[.slice (some ⟨g,0,none⟩) n cap,.int .i64 k] w fun r w'=>r=.returned (.int .i64 (k+5*n))∧w'.ownsRow base 116 5 (.slice (some ⟨g,0,none⟩) n cap) n (fentF.all (zbt k n))∧w.grownBy w' (some g):=by
 have hl:l.length=n:=(zab (F:=fentF) hown).size;go_enter Tryz.func99,Tryz.ntmps99;go_wp2
 go_loopw [1,5] (fun m i wr=>∃j:Nat,j≤n∧i=.int .i64 j∧m=.int .i64 (k+5*j)∧wr.ownsRow base 116 5 (.slice (some ⟨g,0,none⟩) n cap) n (fentF.all (zbt k j++l.drop j))∧w.grownBy wr (some g)) (fun _ i _=>n - (intOf i).toNat)
 case atStart=>exact ⟨0,Nat.zero_le _,rfl,by simp,by simpa [zbt] using hown,World.grownBy.refl _ _⟩
 case round =>
  obtain ⟨j,hj,rfl,rfl,how,hg⟩:=hrel;by_cases hlt:j < n
  ·obtain ⟨x,hx⟩:∃x,l[j]? = some x:=⟨l[j]'(by omega),List.getElem?_eq_getElem (by omega)⟩;have hdr:l.drop j=x::l.drop (j+1):=by
    obtain ⟨h,rfl⟩:=List.getElem?_eq_some_iff.1 hx;exact List.drop_eq_getElem_cons h
   rw [hdr] at how;have hlj:=zeh k j;have hz:(zbt k j++x::l.drop (j+1))[j]? = some x:=by rw [List.getElem?_append_right (by omega),hlj,Nat.sub_self]; rfl
   obtain ⟨⟨t0,t1,t2,t3,t4⟩,f0,f1,f2,f3,f4⟩:=zdS how hz;have o3:=zfZ (y:=markE (k+5*j)) how;rw [hlj] at o3;have HO3:=hide o3;have HG:=hide (zA hg (zdU (w:=wr) (g:=g) (j*5) (j*5+1) (j*5+2) (j*5+3) (j*5+4) (.int .i64 (markE (k+5*j)).t) (.int .i64 (markE (k+5*j)).m) (.int .i64 (markE (k+5*j)).p) (.int .i64 (markE (k+5*j)).a) (.bool (markE (k+5*j)).s)));have HM:=hide (zfu k j);have hm:0≤k+5*(j:Int)∧k+5*(j:Int)≤2199023255552:=by omega
   clear how hg hown o3 hz hdr;generalize hK:k+5*(j:Int)=K at *;go_wp2
   go_roundw
   case rel=>exact ⟨j+1,by omega,by go_num,by simp; omega,by rw [HM.out,List.append_assoc]; exact HO3.out,HG.out⟩
   case measure=>simp [intOf]; omega
  ·have hj':j=n:=by omega
   subst hj';rw [List.drop_eq_nil_of_le (by omega),List.append_nil] at how;have HO:=hide how;clear how hown;go_wp2;go_ret;exact ⟨rfl,HO.out,hg⟩

theorem zei (k:Int) (c:Nat) (w:World) :
  Calls Tryz.prog 99 #[.slice none 0 c,.int .i64 k] w fun r w'=>r=.returned (.int .i64 k)∧w'=w:=by
 go_enter Tryz.func99,Tryz.ntmps99;go_wp2
 go_loop [1,5] (fun m i=>m=.int .i64 k∧i=.int .i64 0) (fun _ _=>0)
 case atStart=>exact ⟨rfl,rfl⟩
 case round =>
  obtain ⟨rfl,rfl⟩:=hrel;go_wp2;go_ret;exact ⟨rfl,rfl⟩

theorem zdq (base:Nat) (ao:Option Addr) (n cap:Nat) (l:List FE) (k:Int) (w:World) (hown:w.ownsRow base 116 5 (.slice ao n cap) n (fentF.all l)) (hn:n≤16777216) (hk0:0≤k) (hk1:k≤1099511627776) :
  Calls Tryz.prog 99 #[.slice ao n cap,.int .i64 k] w fun r w'=>r=.returned (.int .i64 (k+5*n))∧w'.ownsRow base 116 5 (.slice ao n cap) n (fentF.all (zbt k n))∧w.grownBy w' (Value.slice ao n cap).ownBlock:=by
 rcases hown.2 with ⟨e,h0⟩ | ⟨g,cap',cur,e,-⟩
 ·cases e;refine (zei k 0 w).mono ?_;rintro r w' ⟨rfl,rfl⟩;exact ⟨by simp,by simpa [zbt,Flat.all] using World.ownsRow_nil w' base 116 5,World.grownBy.refl _ _⟩
 ·cases e;exact zeR base g n cap l k w hown hn hk0 hk1

theorem zeB (ao:Option Addr) (n c:Nat) (ao':Option Addr) (n' c':Nat) (l:List FE) (w:World) (hl:GRow fentF w ao n c l) (hl':GRow fentF w ao' n' c' l) :
  Calls Tryz.prog 96 #[.slice ao n c,.slice ao' n' c'] w fun r w'=>r=.returned (.bool true)∧Below w.heap.size w w':=by
 have hs:=hl.size;have hs':=hl'.size;have htop:=Nat.le_trans hl.le hl.top;unfold maxLen at htop;have hnn:n'=n:=by omega
 subst hnn;go_enter Tryz.func96,Tryz.ntmps96;go_wp2
 go_loopw [5] (fun i wr=>∃k:Nat,k≤n'∧i=.int .i64 k∧Below w.heap.size w wr) (fun i _=>n' - (intOf i).toNat)
 case atStart=>exact ⟨0,Nat.zero_le _,rfl,Below.refl _ _⟩
 case round =>
  obtain ⟨k,hk,rfl,hb⟩:=hrel;by_cases hlt:k < n'
  ·obtain ⟨x,b,off,hx,rfl,a0,a1,a2,a3,a4⟩:=zaP (hl.below hb) k hlt;obtain ⟨y,b',off',hy,rfl,e0,e1,e2,e3,e4⟩:=zaP (hl'.below hb) k hlt;rw [hx] at hy;cases hy;have CX:Hid (∀W,Below wr.heap.size wr W→_∧_):=fun W h=>⟨at5h (hl.below hb) h hx,at5h (hl'.below hb) h hx⟩
   have HB:=hide hb;clear hb;(go_wp2_with fail)
   go_region_held3 (fun W=>(W.cell? ⟨b,off+k*5,none⟩=some (.int .i64 x.t)∧W.cell? ⟨b,off+k*5+1,none⟩=some (.int .i64 x.m)∧W.cell? ⟨b,off+k*5+2,none⟩=some (.int .i64 x.p)∧W.cell? ⟨b,off+k*5+3,none⟩=some (.int .i64 x.a)∧W.cell? ⟨b,off+k*5+4,none⟩=some (.bool x.s))∧(W.cell? ⟨b',off'+k*5,none⟩=some (.int .i64 x.t)∧W.cell? ⟨b',off'+k*5+1,none⟩=some (.int .i64 x.m)∧W.cell? ⟨b',off'+k*5+2,none⟩=some (.int .i64 x.p)∧W.cell? ⟨b',off'+k*5+3,none⟩=some (.int .i64 x.a)∧W.cell? ⟨b',off'+k*5+4,none⟩=some (.bool x.s))) (first | exact CX.out _ u1 | go_keep) (first
    | (go_at_call 178; refine (zfk x _).mono ?_; rintro r w1 ⟨rfl,hb1⟩; have u1:Below wr.heap.size wr w1:=undrew hb1))
   have b1:=zd HB.out u1;clear u1 hb1 a0 a1 a2 a3 a4 e0 e1 e2 e3 e4;go_wp2
   go_roundw
   case rel=>exact ⟨k+1,by omega,by go_num,b1⟩
   case measure=>simp [intOf]; omega
  ·have hk':k=n':=by omega
   subst hk';go_wp2;go_ret;exact ⟨rfl,hb⟩

end Go.Proofs.YtcpdkcdfnpcemaaGreat
