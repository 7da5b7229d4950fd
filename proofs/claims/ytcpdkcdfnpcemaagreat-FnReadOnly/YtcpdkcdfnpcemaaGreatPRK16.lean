/-
  Packed: VlanDrop VlanFind VlanCat VlanWith VtabPut VlanLaws MibName MibCols.
-/
import Derived.Test.YtcpdkcdfnpcemaaGreatPRK05
import Derived.Test.YtcpdkcdfnpcemaaGreatPRK15
import Derived.Test.YtcpdkcdfnpcemaaGreatPRVtabRow
namespace Go.Proofs.YtcpdkcdfnpcemaaGreat
set_option maxRecDepth 100000
set_option maxHeartbeats 16000000
open Go.RowKit

theorem zeA:∀(e:VR) (l:List VR),vrises (e::l)=true→∀x∈l,e.i < x.i
 | _,[],_,x,hx=>by cases hx
 | e,f::r,h,x,hx=>by
  rw [show vrises (e::f::r)=(decide (e.i < f.i) && vrises (f::r)) from rfl] at h;simp only [Bool.and_eq_true,decide_eq_true_eq] at h;rcases List.mem_cons.1 hx with rfl | hx
  ·exact h.1
  ·have:=zeA f r h.2 x hx
   omega

theorem zfd {e:VR} {l:List VR} (h:vrises (e::l)=true):vrises l=true:=by
 cases l with
 | nil=>rfl
 | cons f r =>
  rw [show vrises (e::f::r)=(decide (e.i < f.i) && vrises (f::r)) from rfl] at h;simp only [Bool.and_eq_true] at h;exact h.2

def cmp9 (a b:Int):Int:=if a < b then -1 else if b < a then 1 else 0

theorem zeP (a b:Int):cmp9 a b < 0↔a < b:=by
 unfold cmp9
 split
 ·omega
 ·split <;> omega
theorem zeQ (a b:Int):cmp9 a b=0↔a=b:=by
 unfold cmp9
 split
 ·omega
 ·split <;> omega

theorem zby (a:Int) (w:World):Calls Tryz.prog 196 #[.int .i64 a] w fun e w'=>e=.returned (.bool false)∧w'=w:=by
 go_enter Tryz.func196,Tryz.ntmps196;go_wp2;go_ret;exact ⟨zH (by simp),rfl⟩

theorem zeR (a b:Int) (w:World):Calls Tryz.prog 115 #[.int .i64 a,.int .i64 b] w fun e w'=>e=.returned (.int .i64 (cmp9 a b))∧w'=w:=by
 by_cases h1:a < b
 ·rw [show cmp9 a b = -1 from if_pos h1];go_enter Tryz.func115,Tryz.ntmps115;(go_wp2_with fail);refine (zby a _).mono ?_;rintro e w1 ⟨rfl,rfl⟩;(go_wp2_with fail);refine (zby b _).mono ?_;rintro e w2 ⟨rfl,rfl⟩;go_wp2;go_ret;exact ⟨rfl,rfl⟩
 by_cases h2:b < a
 ·rw [show cmp9 a b=1 by unfold cmp9; rw [if_neg h1,if_pos h2]];go_enter Tryz.func115,Tryz.ntmps115;(go_wp2_with fail);refine (zby a _).mono ?_;rintro e w1 ⟨rfl,rfl⟩;(go_wp2_with fail);refine (zby b _).mono ?_;rintro e w2 ⟨rfl,rfl⟩;go_wp2;go_ret;exact ⟨rfl,rfl⟩
 ·rw [show cmp9 a b=0 by unfold cmp9; rw [if_neg h1,if_neg h2]];go_enter Tryz.func115,Tryz.ntmps115;(go_wp2_with fail);refine (zby a _).mono ?_;rintro e w1 ⟨rfl,rfl⟩;(go_wp2_with fail);refine (zby b _).mono ?_;rintro e w2 ⟨rfl,rfl⟩;go_wp2;go_ret;exact ⟨rfl,rfl⟩

theorem zbv (x y:VR) (w:World) :
  Calls Tryz.prog 292 #[.agg #[.int .i64 x.i,.int .i64 x.m,.int .i64 x.b],.agg #[.int .i64 y.i,.int .i64 y.m,.int .i64 y.b]] w fun e w'=>e=.returned (.int .i64 (cmp9 x.i y.i))∧Below w.heap.size w w':=by
 have hm:=zcO;generalize hw1:w.alloc (Obj.cells #[.int .i64 x.i,.int .i64 x.m,.int .i64 x.b] 119)=w1;generalize hw2:w1.alloc (Obj.cells #[.int .i64 y.i,.int .i64 y.m,.int .i64 y.b] 119)=w2;have b01:=zb hw1;have b12:=zb hw2;have q:=zd b01 b12;have kx:=zk hw1;have ky:=zk hw2;have HS:Hid (∀W,Below w2.heap.size w2 W→((zcc W w.heap.size 0 (.int .i64 x.i)∧zcc W w.heap.size 1 (.int .i64 x.m)∧zcc W w.heap.size 2 (.int .i64 x.b))∧(zcc W w1.heap.size 0 (.int .i64 y.i)∧zcc W w1.heap.size 1 (.int .i64 y.m)∧zcc W w1.heap.size 2 (.int .i64 y.b)))):=hide (fun W hW=>⟨(zas (ze kx (zd b12 hW))).1,(zas (ze ky hW)).1⟩);have vv:Below w2.heap.size w2 w2.drew:=zr (Below.refl _ _);clear kx ky;generalize hK:cmp9 x.i y.i=K9;have HK:=hide hK;clear hK;go_enter Tryz.func292,Tryz.ntmps292;go_wp2_with fail
 refine wp_region_held_drew (S:=(fun W=>(zcc W w.heap.size 0 (.int .i64 x.i)∧zcc W w.heap.size 1 (.int .i64 x.m)∧zcc W w.heap.size 2 (.int .i64 x.b))∧(zcc W w1.heap.size 0 (.int .i64 y.i)∧zcc W w1.heap.size 1 (.int .i64 y.m)∧zcc W w1.heap.size 2 (.int .i64 y.b)))) (by kernel_rfl) (HS.out _ vv) (fun hHeld => ?_);refine kK 0 ?_;refine kK 1 ?_;refine kK 3 ?_;refine kK 4 ?_;refine kR 2 fun K hK => ?_
 go_simp;refine (zat x _).mono ?_;rintro e wz ⟨rfl,hbz⟩;have vv:=zd vv hbz;go_wp2_with fail
 refine kO hK (HS.out _ vv) fun hHeld => ?_
 clear hK K;refine kR 5 fun K hK => ?_
 go_simp;refine (zat y _).mono ?_;rintro e wz ⟨rfl,hbz⟩;have vv:=zd vv hbz;go_wp2_with fail
 refine kO hK (HS.out _ vv) fun hHeld => ?_
 clear hK K;refine kR 6 fun K hK => ?_
 go_simp;refine (zeR x.i y.i _).mono ?_;rintro e wz ⟨rfl,ez⟩;obtain rfl:=ez.symm;go_wp2_with fail
 refine kO hK (HS.out _ vv) fun hHeld => ?_
 clear hK K;refine kK 7 ?_;refine wpAnyH_done (by kernel_rfl) ?_ _;have HB:=hide (zd q vv);clear HS vv q;go_wp2;go_ret;exact ⟨(by rw [HK.out]; rfl),HB.out⟩

structure zd8 (l:List VR) (id:Int) (pos:Nat) (there:Bool):Prop where
 le:pos≤l.length
 low:vrises l=true→∀(j:Nat) (x:VR),j < pos→l[j]? = some x→x.i < id
 high:vrises l=true→∀(j:Nat) (x:VR),pos≤j→l[j]? = some x→id≤x.i
 is:there=match l[pos]? with | some x=>decide (x.i=id) | none=>false

theorem zhL {l:List VR} (h:vrises l=true):∀(d a:Nat) (x y:VR),l[a]? = some x→l[a+(d+1)]? = some y→x.i < y.i
 | 0,a,x,y,hx,hy=>(zcR l).1 h a x y (List.getElem?_eq_some_iff.1 hy).1 hx hy
 | d+1,a,x,y,hx,hy=>by
  have hl:=(List.getElem?_eq_some_iff.1 hy).1;have hz:l[a+(d+1)]? = some (l[a+(d+1)]'(by omega)):=List.getElem?_eq_getElem (by omega);have h1:=zhL h d a x _ hx hz;have h2:=(zcR l).1 h (a+(d+1)) _ y hl hz hy;omega

theorem zhK {l:List VR} (h:vrises l=true) {a b:Nat} {x y:VR} (hab:a≤b) (hx:l[a]? = some x) (hy:l[b]? = some y):x.i≤y.i:=by
 by_cases e:a=b
 ·subst e;rw [hx] at hy;cases hy;exact Int.le_refl _
 ·obtain ⟨d,rfl⟩:∃d,b=a+(d+1):=⟨b - a - 1,by omega⟩;exact Int.le_of_lt (zhL h d a x y hx hy)

theorem zcU (ao:Option Addr) (n cap:Nat) (l:List VR) (y:VR) (w:World) (h:GRow vrowF w ao n cap l) (hn:n≤16777216) :
  Calls Tryz.prog 291 #[.slice ao n cap,.agg #[.int .i64 y.i,.int .i64 y.m,.int .i64 y.b],.func (.func 292) #[] #[]] w fun r w'=>∃pos there,r=.returned (.tuple #[.int .i64 (pos:Nat),.bool there])∧zd8 l y.i pos there∧Below w.heap.size w w':=by
 have hsz:=h.size;have hrow:=h.below (zh w (.cells #[.int .i64 y.i,.int .i64 y.m,.int .i64 y.b] 119));have ky:=zv w (.cells #[.int .i64 y.i,.int .i64 y.m,.int .i64 y.b] 119);have q:=zh w (.cells #[.int .i64 y.i,.int .i64 y.m,.int .i64 y.b] 119);go_enter Tryz.func291,Tryz.ntmps291;go_wp2
 go_loopw [9,10] (fun s9 s10 wr=>∃lo hi:Nat,s9=.int .i64 lo∧s10=.int .i64 hi∧lo≤hi∧hi≤n∧(vrises l=true→∀(j:Nat) (x:VR),j < lo→l[j]? = some x→x.i < y.i)∧(vrises l=true→∀(j:Nat) (x:VR),hi≤j→l[j]? = some x→y.i≤x.i)∧Below (w.alloc (.cells #[.int .i64 y.i,.int .i64 y.m,.int .i64 y.b] 119)).heap.size (w.alloc (.cells #[.int .i64 y.i,.int .i64 y.m,.int .i64 y.b] 119)) wr) (fun s9 s10 _=>(intOf s10).toNat - (intOf s9).toNat)
 case atStart=>exact ⟨0,n,rfl,rfl,Nat.zero_le _,Nat.le_refl _,fun _ j x hj=>by omega,fun _ j x hj hx=>by have:=(List.getElem?_eq_some_iff.1 hx).1; omega,Below.refl _ _⟩
 case round =>
  obtain ⟨lo,hi,rfl,rfl,hlh,hhn,hlow,hhigh,hb⟩:=hrel;have HL:=hide hlow;have HH:=hide hhigh;clear hlow hhigh;by_cases hlt:lo < hi
  ·obtain ⟨mid,hmid⟩:∃mid:Nat,mid=(lo+hi) / 2:=⟨_,rfl⟩;have hmz:((lo:Int)+(hi:Int)) / 2=(mid:Int):=by omega
   have hm1:lo≤mid:=by omega
   have hm2:mid < hi:=by omega
   have i1:(0:Int)≤(mid:Int):=by omega
   have i2:(mid:Int) < (n:Int):=by omega
   obtain ⟨x,b,off,hx,rfl,c0,c1,c2⟩:=zaI (hrow.below hb) mid (by omega);clear hmid;have hS:∀W,Below wr.heap.size wr W→((W.cell? ⟨b,off+mid*3,none⟩=some (.int .i64 x.i)∧W.cell? ⟨b,off+mid*3+1,none⟩=some (.int .i64 x.m)∧W.cell? ⟨b,off+mid*3+2,none⟩=some (.int .i64 x.b))∧(W.cell? ⟨w.heap.size,0,none⟩=some (.int .i64 y.i)∧W.cell? ⟨w.heap.size,1,none⟩=some (.int .i64 y.m)∧W.cell? ⟨w.heap.size,2,none⟩=some (.int .i64 y.b))):=fun W hW=>⟨⟨zf c0 hW,zf c1 hW,zf c2 hW⟩,(zas (ze (ze ky hb) hW)).1⟩
   have HSS:=hide hS;have vv:Below wr.heap.size wr wr.drew:=zr (Below.refl _ _);have HB:=hide hb;clear hS hb c0 c1 c2;by_cases hyx:cmp9 x.i y.i < 0
   ·have HL2:=hide (show vrises l=true→∀(j:Nat) (z:VR),j < mid+1→l[j]? = some z→z.i < y.i from fun hr j z hj hz=>by have:=zhK hr (by omega) hz hx; have:=(zeP x.i y.i).1 hyx; omega);clear hx;(go_wp2_with fail);refine wp_region_held_drew (S:=(fun W=>(zcc W b (off+mid*3) (.int .i64 x.i)∧zcc W b (off+mid*3+1) (.int .i64 x.m)∧zcc W b (off+mid*3+2) (.int .i64 x.b))∧(zcc W w.heap.size 0 (.int .i64 y.i)∧zcc W w.heap.size 1 (.int .i64 y.m)∧zcc W w.heap.size 2 (.int .i64 y.b)))) (by kernel_rfl) (HSS.out _ vv) (fun hHeld => ?_);refine kK 0 ?_;refine kK 1 ?_;refine kK 2 ?_;refine kK 3 ?_;refine kK 4 ?_;refine kK 5 ?_;refine kR 6 fun K hK => ?_
    go_simp;refine (zbv x y _).mono ?_;rintro r wx ⟨rfl,hbx⟩;have vv:=zd vv hbx;(go_wp2_with fail);refine kO hK (HSS.out _ vv) fun hHeld => ?_
    clear hK K;refine kV 7 (.bool true) ?_;refine wpAnyH_done (by kernel_rfl) ?_ _;clear HSS hHeld;go_wp2
    go_roundw
    case rel=>exact ⟨mid+1,hi,by go_num,rfl,by omega,hhn,HL2.out,HH.out,zd HB.out vv⟩
    case measure=>simp [intOf]; omega
   ·have HH2:=hide (show vrises l=true→∀(j:Nat) (z:VR),mid≤j→l[j]? = some z→y.i≤z.i from fun hr j z hj hz=>by have:=zhK hr hj hx hz; have:=(not_congr (zeP x.i y.i)).1 hyx; omega);clear hx;(go_wp2_with fail);refine wp_region_held_drew (S:=(fun W=>(zcc W b (off+mid*3) (.int .i64 x.i)∧zcc W b (off+mid*3+1) (.int .i64 x.m)∧zcc W b (off+mid*3+2) (.int .i64 x.b))∧(zcc W w.heap.size 0 (.int .i64 y.i)∧zcc W w.heap.size 1 (.int .i64 y.m)∧zcc W w.heap.size 2 (.int .i64 y.b)))) (by kernel_rfl) (HSS.out _ vv) (fun hHeld => ?_);refine kK 0 ?_;refine kK 1 ?_;refine kK 2 ?_;refine kK 3 ?_;refine kK 4 ?_;refine kK 5 ?_;refine kR 6 fun K hK => ?_
    go_simp;refine (zbv x y _).mono ?_;rintro r wx ⟨rfl,hbx⟩;have vv:=zd vv hbx;(go_wp2_with fail);refine kO hK (HSS.out _ vv) fun hHeld => ?_
    clear hK K;refine kV 7 (.bool false) ?_;refine wpAnyH_done (by kernel_rfl) ?_ _;clear HSS hHeld;go_wp2
    go_roundw
    case rel=>exact ⟨lo,mid,rfl,by go_num,by omega,by omega,HL.out,HH2.out,zd HB.out vv⟩
    case measure=>simp [intOf]; omega
  ·obtain rfl:hi=lo:=by omega
   by_cases hin:hi < n
   ·obtain ⟨x,b,off,hx,rfl,c0,c1,c2⟩:=zaI (hrow.below hb) hi hin;have i1:(0:Int)≤(hi:Int):=by omega
    have i2:(hi:Int) < (n:Int):=by omega
    have hS:∀W,Below wr.heap.size wr W→((W.cell? ⟨b,off+hi*3,none⟩=some (.int .i64 x.i)∧W.cell? ⟨b,off+hi*3+1,none⟩=some (.int .i64 x.m)∧W.cell? ⟨b,off+hi*3+2,none⟩=some (.int .i64 x.b))∧(W.cell? ⟨w.heap.size,0,none⟩=some (.int .i64 y.i)∧W.cell? ⟨w.heap.size,1,none⟩=some (.int .i64 y.m)∧W.cell? ⟨w.heap.size,2,none⟩=some (.int .i64 y.b))):=fun W hW=>⟨⟨zf c0 hW,zf c1 hW,zf c2 hW⟩,(zas (ze (ze ky hb) hW)).1⟩
    have HSS:=hide hS;have vv:Below wr.heap.size wr wr.drew:=zr (Below.refl _ _);have HB:=hide hb;clear hS hb c0 c1 c2;by_cases hyx:cmp9 x.i y.i=0
    ·have HF:=hide (show zd8 l y.i hi true from ⟨by omega,HL.out,HH.out,by rw [hx]; exact (decide_eq_true ((zeQ _ _).1 hyx)).symm⟩);clear hx;(go_wp2_with fail);refine wp_region_held_drew (S:=(fun W=>(zcc W b (off+hi*3) (.int .i64 x.i)∧zcc W b (off+hi*3+1) (.int .i64 x.m)∧zcc W b (off+hi*3+2) (.int .i64 x.b))∧(zcc W w.heap.size 0 (.int .i64 y.i)∧zcc W w.heap.size 1 (.int .i64 y.m)∧zcc W w.heap.size 2 (.int .i64 y.b)))) (by kernel_rfl) (HSS.out _ vv) (fun hHeld => ?_);refine kK 0 ?_;refine kK 1 ?_;refine kK 2 ?_;refine kV 3 (.bool true) ?_;refine kK 4 ?_;refine kK 5 ?_;refine kK 6 ?_;refine kK 7 ?_;refine kK 8 ?_;refine kK 9 ?_;refine kK 10 ?_;refine kR 11 fun K hK => ?_
     go_simp;refine (zbv x y _).mono ?_;rintro r wx ⟨rfl,hbx⟩;have vv:=zd vv hbx;(go_wp2_with fail);refine kO hK (HSS.out _ vv) fun hHeld => ?_
     clear hK K;refine kV 12 (.bool true) ?_;refine kK 13 ?_;refine kK 14 ?_;refine kK 15 ?_;refine wpAnyH_done (by kernel_rfl) ?_ _;clear HSS;clear hHeld;go_wp2;exact bodyPost_ret (v:=.tuple #[.int .i64 (hi:Nat),.bool true]) (by simp [results,Tryz.results291,go_sem, *]) rfl ⟨hi,true,rfl,HF.out,zd q (zd HB.out vv)⟩
    ·have HF:=hide (show zd8 l y.i hi false from ⟨by omega,HL.out,HH.out,by rw [hx]; exact (decide_eq_false ((not_congr (zeQ _ _)).1 hyx)).symm⟩);clear hx;(go_wp2_with fail);refine wp_region_held_drew (S:=(fun W=>(zcc W b (off+hi*3) (.int .i64 x.i)∧zcc W b (off+hi*3+1) (.int .i64 x.m)∧zcc W b (off+hi*3+2) (.int .i64 x.b))∧(zcc W w.heap.size 0 (.int .i64 y.i)∧zcc W w.heap.size 1 (.int .i64 y.m)∧zcc W w.heap.size 2 (.int .i64 y.b)))) (by kernel_rfl) (HSS.out _ vv) (fun hHeld => ?_);refine kK 0 ?_;refine kK 1 ?_;refine kK 2 ?_;refine kV 3 (.bool true) ?_;refine kK 4 ?_;refine kK 5 ?_;refine kK 6 ?_;refine kK 7 ?_;refine kK 8 ?_;refine kK 9 ?_;refine kK 10 ?_;refine kR 11 fun K hK => ?_
     go_simp;refine (zbv x y _).mono ?_;rintro r wx ⟨rfl,hbx⟩;have vv:=zd vv hbx;(go_wp2_with fail);refine kO hK (HSS.out _ vv) fun hHeld => ?_
     clear hK K;refine kV 12 (.bool false) ?_;refine kK 13 ?_;refine kK 14 ?_;refine kK 15 ?_;refine wpAnyH_done (by kernel_rfl) ?_ _;clear HSS;clear hHeld;go_wp2;exact bodyPost_ret (v:=.tuple #[.int .i64 (hi:Nat),.bool false]) (by simp [results,Tryz.results291,go_sem, *]) rfl ⟨hi,false,rfl,HF.out,zd q (zd HB.out vv)⟩
   ·have hk:l[hi]? = none:=List.getElem?_eq_none (by omega);have HF:=hide (show zd8 l y.i hi false from ⟨by omega,HL.out,HH.out,by rw [hk]⟩);have HB:=hide hb;clear hk hb;(go_wp2_with fail);refine wp_region_held_drew (S:=(fun _=>True)) (by kernel_rfl) (trivial) (fun hHeld => ?_);refine kK 0 ?_;refine kK 1 ?_;refine kK 2 ?_;refine kV 3 (.bool false) ?_;refine kK 4 ?_;refine kN 5 ?_;refine kN 6 ?_;refine kN 7 ?_;refine kN 8 ?_;refine kN 9 ?_;refine kN 10 ?_;refine kN 11 ?_;refine kN 12 ?_;refine kK 13 ?_;refine kK 14 ?_;refine kK 15 ?_;refine wpAnyH_done (by kernel_rfl) ?_ _;clear hHeld;go_wp2;exact bodyPost_ret (v:=.tuple #[.int .i64 (hi:Nat),.bool false]) (by simp [results,Tryz.results291,go_sem, *]) rfl ⟨hi,false,rfl,HF.out,zd q (zd HB.out (zr (Below.refl _ _)))⟩

theorem zeY (m:Nat) (w:World) (h0:0 < m) (hm:m≤33554432) :
  Calls Tryz.prog 300 #[.slice none 0 0,.int .i64 m] w fun e w'=>∃a' c',e=.returned (.slice a' 0 c')∧w'.ownsRow w.heap.size 119 3 (.slice a' 0 c') 0 (vrowF.all [])∧Below w.heap.size w w':=by
 obtain ⟨i0,hi0,hz0,hz1,hz2⟩:=zbB zaN;have hk3:vrowF.k=3:=rfl;rw [hk3] at hz1;obtain ⟨NC,hNC⟩:∃NC,NC=grownCap w m 0 119:=⟨_,rfl⟩;have hge:m≤NC:=by rw [hNC]; exact grownCap_ge w m 0 119
 have hcm:NC≤maxLen:=by rw [hNC]; exact grownCap_le_maxLen w m 0 119 (by unfold maxLen; omega)
 obtain ⟨C0,hC0⟩:∃C0:Array Value,C0=Builtin.zeroCells #[.int .i64 0,.int .i64 0,.int .i64 0] m++Builtin.zeroCells #[.int .i64 0,.int .i64 0,.int .i64 0] (NC - m):=⟨_,rfl⟩;have hap:∀ty,(Builtin.append_ #[188,3] ty #[.slice none 0 0,.int .i64 m]).run Tryz.prog w=.ok (.slice (some ⟨w.heap.size,0,none⟩) m NC) (w.drew.alloc (.cells C0 119)):=fun ty=>by
  rw [hC0,hNC];exact zcT (P:=Tryz.prog) w 188 3 ty 119 i0 (.agg #[.int .i64 0,.int .i64 0,.int .i64 0]) .i64 .i64 Tryz.underlying188 Tryz.underlying3 hi0 hz0 m h0 (by omega) (by omega) (by rw [hz2]; omega)
 have hC0s:C0.size=NC*3:=by
  rw [hC0];simp only [Array.size_append,size_zeroCells]
  simp
  omega
 have hown:(w.drew.alloc (.cells C0 119)).ownsRow w.heap.size 119 3 (.slice (some ⟨w.heap.size,0,none⟩) 0 NC) 0 (vrowF.all []) :=
  ⟨by simp [Flat.all],.inr ⟨w.heap.size,NC,C0,rfl,Nat.le_refl _,zv w.drew _,Nat.zero_le _,hcm,hC0s,by simp [Flat.all]⟩⟩
 have HO:=hide hown;have HB:Hid (Below w.heap.size w (w.drew.alloc (.cells C0 119))):=hide (zd (zr (Below.refl _ _)) (zh w.drew _));have hpos:(0:Int) < (m:Int):=by omega
 have hnn:¬((m:Int) < 0):=by omega
 have hwm:IntKind.i64.wrap (m:Int)=(m:Int):=by rw [IntKind.wrap_i64]; omega
 clear hown hC0 hC0s hge hi0 hz0 hz1 hz2 hNC;go_enter Tryz.func300,Tryz.ntmps300;go_wp2_with (at_builtin; refine Lib.wpList_append_run _ rfl _ _ _ _ rfl _ _ rfl rfl _ _ (hap _) ?_)
 go_wp2;go_ret;exact ⟨_,_,rfl,HO.out,HB.out⟩

theorem zcB (g:Nat) (a1:Option Addr) (n1 c1:Nat) (a2:Option Addr) (n2 c2:Nat) (a3:Option Addr) (n3 c3:Nat) (l1 l2 l3:List VR) (w:World) (kg:w.heap[g]? = some (.cells #[.slice a1 n1 c1,.slice a2 n2 c2,.slice a3 n3 c3] 188)) (h1:GRow vrowF w a1 n1 c1 l1) (h2:GRow vrowF w a2 n2 c2 l2) (h3:GRow vrowF w a3 n3 c3 l3) (hs:n1+n2+n3≤33554432) (hp:0 < n2) :
  Calls Tryz.prog 293 #[.slice (some ⟨g,0,none⟩) 3 3] w fun e w'=>∃a' c',e=.returned (.slice a' (n1+n2+n3) c')∧w'.ownsRow w.heap.size 119 3 (.slice a' (n1+n2+n3) c') (n1+n2+n3) (vrowF.all (l1++l2++l3))∧Below w.heap.size w w':=by
 obtain ⟨⟨p0,p1,p2⟩,-⟩:=zas kg;have j1:¬((n1:Int) < 0):=by omega
 have j2:¬((n1:Int)+(n2:Int) < 0):=by omega
 have j3:¬((n1:Int)+(n2:Int)+(n3:Int) < 0):=by omega
 have e2:IntKind.i64.wrap ((n1:Int)+(n2:Int))=(n1:Int)+(n2:Int):=by rw [IntKind.wrap_i64]; omega
 have e3:IntKind.i64.wrap ((n1:Int)+(n2:Int)+(n3:Int))=(n1:Int)+(n2:Int)+(n3:Int):=by rw [IntKind.wrap_i64]; omega
 have e1:IntKind.i64.wrap (n1:Int)=(n1:Int):=by rw [IntKind.wrap_i64]; omega
 go_enter Tryz.func293,Tryz.ntmps293;go_wp2
 go_loop [3,11] (fun s i=>∃k:Nat,k≤3∧i=.int .i64 k∧(k=0→s=.int .i64 0)∧(k=1→s=.int .i64 (n1:Int))∧(k=2→s=.int .i64 ((n1:Int)+(n2:Int)))∧(k=3→s=.int .i64 ((n1:Int)+(n2:Int)+(n3:Int)))) (fun _ i=>3 - (intOf i).toNat)
 case atStart=>exact ⟨0,by omega,rfl,fun _=>rfl,by omega,by omega,by omega⟩
 case round =>
  obtain ⟨k,hk,hi,s0,s1,s2,s3⟩:=hrel;rcases (show k=0∨k=1∨k=2∨k=3 by omega) with rfl | rfl | rfl | rfl
  ·have hi:_=Value.int .i64 0:=hi;subst hi;have hs0:=s0 rfl;subst hs0;clear s0 s1 s2 s3;go_wp2
   go_round
   case rel=>exact ⟨1,by omega,by go_num,by omega,fun _=>by go_num,by omega,by omega⟩
   case measure=>simp [intOf]
  ·have hi:_=Value.int .i64 1:=hi;subst hi;have hs0:=s1 rfl;subst hs0;clear s0 s1 s2 s3;go_wp2
   go_round
   case rel=>exact ⟨2,by omega,by go_num,by omega,by omega,fun _=>by go_num,by omega⟩
   case measure=>simp [intOf]
  ·have hi:_=Value.int .i64 2:=hi;subst hi;have hs0:=s2 rfl;subst hs0;clear s0 s1 s2 s3;go_wp2
   go_round
   case rel=>exact ⟨3,by omega,by go_num,by omega,by omega,by omega,fun _=>by go_num⟩
   case measure=>simp [intOf]
  ·have hi:_=Value.int .i64 3:=hi;subst hi;have hs0:=s3 rfl;subst hs0;clear s0 s1 s2 s3 p0 p1 p2;(go_wp2_with fail);have hg:=zeY (n1+n2+n3) w (by omega) hs;rw [show (((n1+n2+n3:Nat)):Int)=(n1:Int)+(n2:Int)+(n3:Int) by omega] at hg;refine hg.mono ?_;rintro e w1 ⟨a',c',rfl,ho,hb⟩;clear j1 j2 j3 e1 e2 e3 hg;go_wp2
   go_loopw [6,27] (fun s i wr=>∃(k:Nat) (ar:Option Addr) (cr:Nat),k≤3∧i=.int .i64 k∧s=.slice ar (if k=0 then 0 else if k=1 then n1 else if k=2 then n1+n2 else n1+n2+n3) cr∧wr.ownsRow w.heap.size 119 3 (.slice ar (if k=0 then 0 else if k=1 then n1 else if k=2 then n1+n2 else n1+n2+n3) cr) (if k=0 then 0 else if k=1 then n1 else if k=2 then n1+n2 else n1+n2+n3) (vrowF.all (if k=0 then [] else if k=1 then l1 else if k=2 then l1++l2 else l1++(l2++l3)))∧Below w.heap.size w wr) (fun _ i _=>3 - (intOf i).toNat)
   case atStart=>exact ⟨0,a',c',by omega,rfl,rfl,ho,hb⟩
   case round =>
    obtain ⟨k,ar,cr,hk,hi,hs0,ho,hb⟩:=hrel;rcases (show k=0∨k=1∨k=2∨k=3 by omega) with rfl | rfl | rfl | rfl
    ·have hi:_=Value.int .i64 0:=hi;subst hi;have hs0:_=Value.slice ar (0) cr:=hs0;subst hs0;have HB:=hide hb;obtain ⟨⟨q0,q1,q2⟩,-⟩:=zas (ze kg hb);have ho:wr.ownsRow w.heap.size 119 3 (.slice ar (0) cr) (0) (vrowF.all ([])):=ho;clear hb;go_wp2_with (at_builtin; refine zw (F:=vrowF) _ rfl _ _ 188 119 rfl w.heap.size Tryz.underlying188 zaN rfl (by decide) _ (0) ([]) rfl ho _ n1 c1 l1 rfl (h1.below HB.out) (by omega) HB.out.size ?_)
     intro a7 c7 w7 how hr hgr hb7;have HO:Hid (w7.ownsRow w.heap.size 119 3 (.slice a7 (n1) c7) (n1) (vrowF.all (l1))):=hide how;have HB7:=hide (HB.out.trans hb7);clear how hr hgr hb7 ho q0 q1 q2;go_wp2
     go_roundw
     case rel=>exact ⟨1,a7,c7,by omega,by go_num,rfl,HO.out,HB7.out⟩
     case measure=>simp [intOf]
    ·have hi:_=Value.int .i64 1:=hi;subst hi;have hs0:_=Value.slice ar (n1) cr:=hs0;subst hs0;have HB:=hide hb;obtain ⟨⟨q0,q1,q2⟩,-⟩:=zas (ze kg hb);have ho:wr.ownsRow w.heap.size 119 3 (.slice ar (n1) cr) (n1) (vrowF.all (l1)):=ho;clear hb;go_wp2_with (at_builtin; refine zw (F:=vrowF) _ rfl _ _ 188 119 rfl w.heap.size Tryz.underlying188 zaN rfl (by decide) _ (n1) (l1) rfl ho _ n2 c2 l2 rfl (h2.below HB.out) (by omega) HB.out.size ?_)
     intro a7 c7 w7 how hr hgr hb7;have HO:Hid (w7.ownsRow w.heap.size 119 3 (.slice a7 (n1+n2) c7) (n1+n2) (vrowF.all (l1++l2))):=hide how;have HB7:=hide (HB.out.trans hb7);clear how hr hgr hb7 ho q0 q1 q2;go_wp2
     go_roundw
     case rel=>exact ⟨2,a7,c7,by omega,by go_num,rfl,HO.out,HB7.out⟩
     case measure=>simp [intOf]
    ·have hi:_=Value.int .i64 2:=hi;subst hi;have hs0:_=Value.slice ar (n1+n2) cr:=hs0;subst hs0;have HB:=hide hb;obtain ⟨⟨q0,q1,q2⟩,-⟩:=zas (ze kg hb);have ho:wr.ownsRow w.heap.size 119 3 (.slice ar (n1+n2) cr) (n1+n2) (vrowF.all (l1++l2)):=ho;clear hb;go_wp2_with (at_builtin; refine zw (F:=vrowF) _ rfl _ _ 188 119 rfl w.heap.size Tryz.underlying188 zaN rfl (by decide) _ (n1+n2) (l1++l2) rfl ho _ n3 c3 l3 rfl (h3.below HB.out) (by omega) HB.out.size ?_)
     intro a7 c7 w7 how hr hgr hb7;have HO:Hid (w7.ownsRow w.heap.size 119 3 (.slice a7 (n1+n2+n3) c7) (n1+n2+n3) (vrowF.all (l1++(l2++l3)))):=hide how;have HB7:=hide (HB.out.trans hb7);clear how hr hgr hb7 ho q0 q1 q2;go_wp2
     go_roundw
     case rel=>exact ⟨3,a7,c7,by omega,by go_num,rfl,HO.out,HB7.out⟩
     case measure=>simp [intOf]
    ·have hi:_=Value.int .i64 3:=hi;subst hi;have hs0:_=Value.slice ar (n1+n2+n3) cr:=hs0;subst hs0;have ho:wr.ownsRow w.heap.size 119 3 (.slice ar (n1+n2+n3) cr) (n1+n2+n3) (vrowF.all (l1++(l2++l3))):=ho;rw [← List.append_assoc] at ho;have HO:=hide ho;have HB:=hide hb;clear ho hb;go_wp2;go_ret;exact ⟨ar,cr,(by simp),HO.out,HB.out⟩

theorem zep {α:Type} {F:Flat α} {w:World} {g:Nat} {x:α} {cs:Array Value} {T:TypeId} (h:w.heap[g]? = some (.cells cs T)) (hc:cs.toList=F.cs x):GRow F w (some ⟨g,0,none⟩) 1 1 [x]:=by
 refine ⟨rfl,Nat.le_refl _,by unfold maxLen; omega,(by intro h; cases h),.inr ⟨g,0,rfl,fun i y hi j v hv => ?_⟩⟩;have hi0:i=0:=by
  have:=(List.getElem?_eq_some_iff.1 hi).1
  simp at this
  exact this
 subst hi0
 simp at hi
 subst hi;rw [Nat.zero_mul,Nat.zero_add];rw [← hc] at hv;simp only [World.cell?,h]
 simpa using hv

theorem zdN (r:VR):∀(l:List VR),zy l r true=l.filter (fun x=>x.i != r.i)
 | []=>rfl
 | x::t=>by
  have ih:=zdN r t;rw [show zy (x::t) r true=(if !true && decide (r.i≤x.i) then [r] else [])++(if x.i != r.i then [x] else [])++zy t r (true || decide (r.i≤x.i)) by simp [zy]];rw [Bool.true_or,ih,List.filter_cons];cases h:(x.i != r.i) <;> simp

theorem zc5 {r:VR} {l:List VR} (h:∀x∈l,r.i < x.i):l.filter (fun x=>x.i != r.i)=l:=by
 refine List.filter_eq_self.2 fun x hx => ?_
 have:=h x hx
 simp
 omega

theorem zdQ {r:VR}:∀(l:List VR) (pos:Nat) (there:Bool),vrises l=true→zd8 l r.i pos there→l.take pos++([r]++l.drop (if there then pos+1 else pos))=zy l r false
 | [],pos,there,_,h=>by
  have h0:pos=0:=by have:=h.le; simpa using this
  subst h0
  simp [zy]
 | x::t,0,there,hr,h=>by
  have hle:r.i≤x.i:=h.high hr 0 x (Nat.le_refl _) rfl;have hth:there=decide (x.i=r.i):=h.is;rw [show zy (x::t) r false=(if !false && decide (r.i≤x.i) then [r] else [])++(if x.i != r.i then [x] else [])++zy t r (false || decide (r.i≤x.i)) by simp [zy]];rw [decide_eq_true hle,Bool.false_or,zdN];have hall:=zeA x t hr;rw [zc5 (fun y hy=>by have:=hall y hy; omega)];by_cases e:x.i=r.i
  ·rw [hth]
   simp [e]
  ·rw [hth]
   simp [e]
 | x::t,p+1,there,hr,h=>by
  have hlt:x.i < r.i:=h.low hr 0 x (by omega) rfl;have ht:zd8 t r.i p there:=by
   refine ⟨by have:=h.le; simpa using this,fun _ j y hj hy=>h.low hr (j+1) y (by omega) (by simpa using hy),fun _ j y hj hy=>h.high hr (j+1) y (by omega) (by simpa using hy), ?_⟩
   have:=h.is
   simpa using this
  have ih:=zdQ t p there (zfd hr) ht;rw [show zy (x::t) r false=(if !false && decide (r.i≤x.i) then [r] else [])++(if x.i != r.i then [x] else [])++zy t r (false || decide (r.i≤x.i)) by simp [zy]];rw [decide_eq_false (show ¬r.i≤x.i by omega),Bool.or_false,← ih];have hne:(x.i != r.i)=true:=by simp; omega
  rw [hne];cases there <;> simp

theorem zhE {r:VR} {l:List VR} {p d:Nat}:∀x∈l.take p++([r]++l.drop d),x∈l∨x=r:=by
 intro x hx;rcases List.mem_append.1 hx with hx | hx
 ·exact .inl (List.mem_of_mem_take hx)
 ·rcases List.mem_append.1 hx with hx | hx
  ·exact .inr (by simpa using hx)
  ·exact .inl (List.mem_of_mem_drop hx)

theorem zet (a:Option Addr) (n c:Nat) (l:List VR) (r:VR) (w:World) (h:GRow vrowF w a n c l) (hA:a=none∨∃b off,a=some ⟨b,off,none⟩) (hn:n≤16777216) :
  Calls Tryz.prog 283 #[.slice a n c,.agg #[.int .i64 r.i,.int .i64 r.m,.int .i64 r.b]] w fun e w'=>∃a' n' c' L,e=.returned (.slice a' n' c')∧n'≤n+1∧w'.ownsRow w.heap.size 119 3 (.slice a' n' c') n' (vrowF.all L)∧(vrises l=true→L=zy l r false)∧(∀x∈L,x∈l∨x=r)∧Below w.heap.size w w':=by
 have hle:=h.le;have htop:=h.top;unfold maxLen at htop;have hsz:=hide h.size;generalize hw1:w.alloc (Obj.cells #[.int .i64 r.i,.int .i64 r.m,.int .i64 r.b] 119)=w1;have q0:=zb hw1;have kr:=zk hw1;obtain ⟨⟨x0,x1,x2⟩,-⟩:=zas kr;rcases hA with rfl | ⟨b,off,rfl⟩
 ·have hc0:=h.nil rfl;have hn0:n=0:=by omega
  subst hc0 hn0;have hl:l=[]:=List.eq_nil_of_length_eq_zero h.size;subst hl;go_enter Tryz.func283,Tryz.ntmps283;(go_wp2_with fail);refine (zcU none 0 0 [] r _ (h.below q0) hn).mono ?_;rintro e w2 ⟨pos,there,rfl,hf,hb2⟩;have hp0:pos=0:=by have:=hf.le; simpa using this
  subst hp0;have ht:there=false:=hf.is;subst ht;have hg1:GRow vrowF w2 none 0 0 []:=zdk _ _;have hg3:GRow vrowF w2 none 0 0 []:=zdk _ _;have HP:Hid ((vrises ([]:List VR)=true→([]++[r]++[]:List VR)=zy [] r false)∧∀x∈([]++[r]++[]:List VR),x∈([]:List VR)∨x=r):=hide ⟨fun _=>by simp [zy],by intro x hx; right; simpa using hx⟩;clear hf x0 x1 x2;have kr:=ze kr hb2;have q2:=zd q0 hb2;have vv:Below w2.heap.size w2 w2.drew:=zr (Below.refl _ _);have v2:Below w2.heap.size w2 w2.drew:=vv;(go_wp2_with fail);refine wp_region_held_drew (S:=(fun W=>zcc W w.heap.size 0 (.int .i64 r.i)∧zcc W w.heap.size 1 (.int .i64 r.m)∧zcc W w.heap.size 2 (.int .i64 r.b))) (by kernel_rfl) ((zas (ze kr vv)).1) (fun hHeld => ?_);refine kK 0 ?_;refine kK 1 ?_;refine kK 2 ?_;refine kK 3 ?_;refine kK 5 ?_;refine kK 6 ?_;refine kK 7 ?_;refine kR 4 fun K hK => ?_
  go_simp
  first
  | refine zac (K:=K _) (fun wx hk hbx => ?_)
  | refine zR (K:=K _) (fun wx hk hbx => ?_)
  have g2:=zep (F:=vrowF) (x:=r) hk rfl;have vv:=zd vv hbx;have v2:Below w2.heap.size w2 wx:=zd v2 hbx;clear hk hbx;refine kO hK ((zas (ze kr vv)).1) fun hHeld => ?_
  clear hK K;refine kR 8 fun K hK => ?_
  go_simp
  first
  | refine zac (K:=K _) (fun wx hk hbx => ?_)
  | refine zR (K:=K _) (fun wx hk hbx => ?_)
  have g2:=g2.below hbx;have vv:=zd vv hbx;have v2:=zd v2 hbx;clear hbx;refine kO hK ((zas (ze kr vv)).1) fun hHeld => ?_
  clear hK K;refine kR 9 fun K hK => ?_
  go_simp;refine (zcB _ _ 0 0 _ 1 1 _ 0 0 [] [r] [] _ hk (hg1.below v2) g2 (hg3.below v2) (by omega) (by omega)).mono ?_;rintro e wx ⟨a',c',rfl,how,hbx⟩;have HO:=hide (zW how (base':=w.heap.size) (Nat.le_trans q2.size v2.size));have vv:=zd vv hbx;have HB:=hide (zd q2 (zd v2 hbx));clear how hbx g2 hk;(go_wp2_with fail);refine kO hK ((zas (ze kr vv)).1) fun hHeld => ?_
  clear hK K;refine kK 10 ?_;refine wpAnyH_done (by kernel_rfl) ?_ _;go_wp2;go_ret;exact ⟨_,_,_,_,rfl,by omega,HO.out,HP.out.1,HP.out.2,HB.out⟩
 ·go_enter Tryz.func283,Tryz.ntmps283;(go_wp2_with fail);refine (zcU (some ⟨b,off,none⟩) n c l r _ (h.below q0) hn).mono ?_;rintro e w2 ⟨pos,there,rfl,hf,hb2⟩;have hpn:pos≤n:=by have:=hf.le; have:=hsz.out; omega
  have i1:(0:Int)≤(pos:Int):=by omega
  have i2:(pos:Int)≤(c:Int):=by omega
  have hg1:=(h.below (zd q0 hb2)).take hpn;cases there
  ·have HP:Hid ((vrises l=true→l.take pos++[r]++l.drop pos=zy l r false)∧∀x∈l.take pos++[r]++l.drop pos,x∈l∨x=r):=hide ⟨fun hr=>by have:=zdQ l pos false hr hf; rw [← this]; simp,by rw [List.append_assoc]; exact zhE⟩;have hg3:=(h.below (zd q0 hb2)).drop3 hpn;have i3:(pos:Int)≤(n:Int):=by omega
   clear hf x0 x1 x2;have kr:=ze kr hb2;have q2:=zd q0 hb2;have vv:Below w2.heap.size w2 w2.drew:=zr (Below.refl _ _);have v2:Below w2.heap.size w2 w2.drew:=vv;(go_wp2_with fail);refine wp_region_held_drew (S:=(fun W=>zcc W w.heap.size 0 (.int .i64 r.i)∧zcc W w.heap.size 1 (.int .i64 r.m)∧zcc W w.heap.size 2 (.int .i64 r.b))) (by kernel_rfl) ((zas (ze kr vv)).1) (fun hHeld => ?_);refine kK 0 ?_;refine kK 1 ?_;refine kK 2 ?_;refine kK 3 ?_;refine kK 5 ?_;refine kK 6 ?_;refine kK 7 ?_;refine kR 4 fun K hK => ?_
   go_simp
   first
   | refine zac (K:=K _) (fun wx hk hbx => ?_)
   | refine zR (K:=K _) (fun wx hk hbx => ?_)
   have g2:=zep (F:=vrowF) (x:=r) hk rfl;have vv:=zd vv hbx;have v2:Below w2.heap.size w2 wx:=zd v2 hbx;clear hk hbx;refine kO hK ((zas (ze kr vv)).1) fun hHeld => ?_
   clear hK K;refine kR 8 fun K hK => ?_
   go_simp
   first
   | refine zac (K:=K _) (fun wx hk hbx => ?_)
   | refine zR (K:=K _) (fun wx hk hbx => ?_)
   have g2:=g2.below hbx;have vv:=zd vv hbx;have v2:=zd v2 hbx;clear hbx;refine kO hK ((zas (ze kr vv)).1) fun hHeld => ?_
   clear hK K;refine kR 9 fun K hK => ?_
   go_simp;refine (zcB _ _ pos c _ 1 1 _ (n - pos) (c - pos) (l.take pos) [r] (l.drop pos) _ hk (hg1.below v2) g2 (hg3.below v2) (by omega) (by omega)).mono ?_;rintro e wx ⟨a',c',rfl,how,hbx⟩;have HO:=hide (zW how (base':=w.heap.size) (Nat.le_trans q2.size v2.size));have vv:=zd vv hbx;have HB:=hide (zd q2 (zd v2 hbx));clear how hbx g2 hk;generalize (if c=pos then some (⟨b,off,none⟩:Addr) else some ⟨b,off+pos*3,none⟩)=ad;(go_wp2_with fail);refine kO hK ((zas (ze kr vv)).1) fun hHeld => ?_
   clear hK K;refine kK 10 ?_;refine wpAnyH_done (by kernel_rfl) ?_ _;go_wp2;go_ret;exact ⟨_,_,_,_,rfl,by omega,HO.out,HP.out.1,HP.out.2,HB.out⟩
  ·have hpl:pos < n:=by
    have:=hf.is
    cases hx:l[pos]? with
    | none=>rw [hx] at this; cases this
    | some x=>have:=(List.getElem?_eq_some_iff.1 hx).1; have:=hsz.out; omega
   have HP:Hid ((vrises l=true→l.take pos++[r]++l.drop (pos+1)=zy l r false)∧∀x∈l.take pos++[r]++l.drop (pos+1),x∈l∨x=r):=hide ⟨fun hr=>by have:=zdQ l pos true hr hf; rw [← this]; simp,by rw [List.append_assoc]; exact zhE⟩;have hg3:=(h.below (zd q0 hb2)).drop3 (k:=pos+1) (by omega);have i3:(pos:Int)+1≤(n:Int):=by omega
   have i4:(0:Int)≤(pos:Int)+1:=by omega
   have i5:IntKind.i64.wrap ((pos:Int)+1)=(pos:Int)+1:=by rw [IntKind.wrap_i64]; omega
   have i6:((pos:Int)+1).toNat=pos+1:=by omega
   clear hf x0 x1 x2;have kr:=ze kr hb2;have q2:=zd q0 hb2;have vv:Below w2.heap.size w2 w2.drew:=zr (Below.refl _ _);have v2:Below w2.heap.size w2 w2.drew:=vv;(go_wp2_with fail);refine wp_region_held_drew (S:=(fun W=>zcc W w.heap.size 0 (.int .i64 r.i)∧zcc W w.heap.size 1 (.int .i64 r.m)∧zcc W w.heap.size 2 (.int .i64 r.b))) (by kernel_rfl) ((zas (ze kr vv)).1) (fun hHeld => ?_);refine kK 0 ?_;refine kK 1 ?_;refine kK 2 ?_;refine kK 3 ?_;refine kK 5 ?_;refine kK 6 ?_;refine kK 7 ?_;refine kR 4 fun K hK => ?_
   go_simp
   first
   | refine zac (K:=K _) (fun wx hk hbx => ?_)
   | refine zR (K:=K _) (fun wx hk hbx => ?_)
   have g2:=zep (F:=vrowF) (x:=r) hk rfl;have vv:=zd vv hbx;have v2:Below w2.heap.size w2 wx:=zd v2 hbx;clear hk hbx;refine kO hK ((zas (ze kr vv)).1) fun hHeld => ?_
   clear hK K;refine kR 8 fun K hK => ?_
   go_simp
   first
   | refine zac (K:=K _) (fun wx hk hbx => ?_)
   | refine zR (K:=K _) (fun wx hk hbx => ?_)
   have g2:=g2.below hbx;have vv:=zd vv hbx;have v2:=zd v2 hbx;clear hbx;refine kO hK ((zas (ze kr vv)).1) fun hHeld => ?_
   clear hK K;refine kR 9 fun K hK => ?_
   go_simp;refine (zcB _ _ pos c _ 1 1 _ (n - (pos+1)) (c - (pos+1)) (l.take pos) [r] (l.drop (pos+1)) _ hk (hg1.below v2) g2 (hg3.below v2) (by omega) (by omega)).mono ?_;rintro e wx ⟨a',c',rfl,how,hbx⟩;have HO:=hide (zW how (base':=w.heap.size) (Nat.le_trans q2.size v2.size));have vv:=zd vv hbx;have HB:=hide (zd q2 (zd v2 hbx));clear how hbx g2 hk;generalize (if c=pos+1 then some (⟨b,off,none⟩:Addr) else some ⟨b,off+(pos+1)*3,none⟩)=ad;(go_wp2_with fail);refine kO hK ((zas (ze kr vv)).1) fun hHeld => ?_
   clear hK K;refine kK 10 ?_;refine wpAnyH_done (by kernel_rfl) ?_ _;go_wp2;go_ret;exact ⟨_,_,_,_,rfl,by omega,HO.out,HP.out.1,HP.out.2,HB.out⟩

def zcQ (v:VT) (r:VR):VT × Bool:=if zO v v.own.length then orV ⟨zy v.rows r false,v.own⟩ v else (v,false)

theorem zcj (a:Option Addr) (n c:Nat) (o:Option Addr) (p q:Nat) (v:VT) (r:VR) (w:World) (h:VTab w a n c o p q v) (hn:n≤16777216) (hp:p≤16777216) :
  Calls Tryz.prog 186 #[.agg #[.slice a n c,.slice o p q],.agg #[.int .i64 r.i,.int .i64 r.m,.int .i64 r.b]] w fun e w'=>∃a' n' c' o' p' q',e=.returned (.tuple #[.agg #[.slice a' n' c',.slice o' p' q'],.bool (zcQ v r).2])∧VOwn w' w.heap.size a' n' c' o' p' q' (zcQ v r).1∧Below w.heap.size w w':=by
 generalize hw1:w.alloc (Obj.cells #[Value.slice a n c,Value.slice o p q] 29)=w1;generalize hw2:w1.alloc (Obj.cells #[Value.int .i64 r.i,Value.int .i64 r.m,Value.int .i64 r.b] 119)=w2;generalize hw3:w2.alloc (Obj.cells #[Value.slice none 0 0,Value.slice none 0 0] 29)=w3;have b01:=zb hw1;have b12:=zb hw2;have b23:=zb hw3;have b13:=zd b12 b23;have b03:=zd b01 b13;have k2:=zk hw3;have z3:Hid (w2.heap.size < w3.heap.size):=hide (by rw [← hw3]; simp);obtain ⟨e0,e0x⟩:=zP hw1 b12;have kr:=zk hw2;obtain ⟨⟨e1,e2,e3⟩,-⟩:=zas kr;have hb1:=zP hw1 b13;have h3:=h.below b03;have hl:=h.own.size;unfold zcQ;rw [hl];cases hok:zO v p
 ·rw [if_neg Bool.false_ne_true];go_enter Tryz.func186,Tryz.ntmps186;go_wp2_with (refine (zS a n c o p q v (p:Int) _ h3).mono ?_; rintro e w4 ⟨rfl,hb4⟩; rw [hok]; have hc1:=zP hw1 (zd b13 hb4))
  go_wp2_with (refine (zav a n c o p q v _ (h3.below hb4) hn hp).mono ?_; rintro e w5 ⟨a',c',o',q',rfl,hO,hb5⟩; obtain ⟨⟨g0,g1⟩,f0,f1⟩:=zU (ze k2 (zd hb4 hb5)))
  have hbW:Below w.heap.size w ((w5.setCell ⟨w2.heap.size,0,none⟩ (.slice a' n c')).setCell ⟨w2.heap.size,1,none⟩ (.slice o' p q')):=zg (zg (zd b03 (zd hb4 hb5)) (zd b01 b12).size _ _) (zd b01 b12).size _ _;have hO':=(hO.set2 (g:=w2.heap.size) (by have:=hb4.size; have:=z3.out; omega) (.slice a' n c') (.slice o' p q')).lt (base':=w.heap.size) (by have:=hb4.size; have:=b03.size; omega);have HO:=hide hO';clear hO hO';exact bodyPost_ret (v:=.tuple #[.agg #[.slice a' n c',.slice o' p q'],.bool false]) (by simp [results,Tryz.results186,go_sem, *]) rfl ⟨_,_,_,_,_,_,rfl,HO.out,hbW⟩
 ·rw [if_pos rfl];go_enter Tryz.func186,Tryz.ntmps186;go_wp2_with (refine (zS a n c o p q v (p:Int) _ h3).mono ?_; rintro e w4 ⟨rfl,hb4⟩; rw [hok])
  have vv:Below w3.heap.size w3 w4.drew:=zr hb4;have vb:Below w2.heap.size w2 w4.drew:=zd b23 vv;refine wp_region_held_drew (S:=(fun W=>zcc W w.heap.size 0 (.slice a n c)∧zcc W w.heap.size 1 (.slice o p q)∧zcc W w1.heap.size 0 (.int .i64 r.i)∧zcc W w1.heap.size 1 (.int .i64 r.m)∧zcc W w1.heap.size 2 (.int .i64 r.b))) (by kernel_rfl) (⟨zf e0 vb,zf e0x vb,zf e1 vb,zf e2 vb,zf e3 vb⟩) (fun hHeld => ?_);refine kK 0 ?_;refine kK 1 ?_;refine kK 3 ?_;refine kR 2 fun K hK => ?_
  go_simp;refine (zfq a n c o p q v r _ (h3.below vv) hn hp).mono ?_;rintro e w5 ⟨a5,n5,c5,o5,q5,rfl,hO5,hb5⟩;have hO5:=hO5.lt (base':=w3.heap.size) vv.size;have vv:=zd vv hb5;have vb:=zd vb hb5;(go_wp2_with fail);refine kO hK (⟨zf e0 vb,zf e0x vb,zf e1 vb,zf e2 vb,zf e3 vb⟩) fun hHeld => ?_
  clear hK K;refine kR 4 fun K hK => ?_
  go_simp;refine (zcG w3.heap.size a5 n5 c5 o5 p q5 _ a n c o p q v _ hO5 (h3.below vv) hn hp vv.size).mono ?_;rintro e w6 ⟨a6,n6,c6,o6,p6,q6,rfl,hO6,hb6⟩;have vv:=zd vv hb6;have vb:=zd vb hb6;clear hO5;(go_wp2_with fail);refine kO hK (⟨zf e0 vb,zf e0x vb,zf e1 vb,zf e2 vb,zf e3 vb⟩) fun hHeld => ?_
  clear hK K;refine kK 5 ?_;refine kK 6 ?_;refine kR 7 fun K hK => ?_
  obtain ⟨⟨g0,g1⟩,f0,f1⟩:=zU (ze k2 vv);go_simp;have vb:=zg (zg vb (Nat.le_refl _) 0 (.slice a6 n6 c6)) (Nat.le_refl _) 1 (.slice o6 p6 q6);have hO6:=hO6.set2 (g:=w2.heap.size) z3.out (.slice a6 n6 c6) (.slice o6 p6 q6);refine kO hK (⟨zf e0 vb,zf e0x vb,zf e1 vb,zf e2 vb,zf e3 vb⟩) fun hHeld => ?_
  clear hK K;refine kK 8 ?_;refine wpAnyH_done (by kernel_rfl) ?_ _;have HO:=hide (hO6.lt (base':=w.heap.size) b03.size);have HB:=hide (zd (zd b01 b12) vb);clear hO6;go_wp2;exact bodyPost_ret (v:=.tuple #[.agg #[.slice a6 n6 c6,.slice o6 p6 q6],.bool (orV ⟨zy v.rows r false,v.own⟩ v).2]) (by simp [results,Tryz.results186,go_sem, *]) rfl ⟨_,_,_,_,_,_,rfl,HO.out,HB.out⟩

theorem zbH:∀(l:List VR),vrises l=true↔l.Pairwise (fun a b=>a.i < b.i)
 | []=>by simp [vrises]
 | e::l=>by
  constructor
  ·intro h;exact List.pairwise_cons.2 ⟨zeA e l h,(zbH l).1 (zfd h)⟩
  ·intro h;obtain ⟨h1,h2⟩:=List.pairwise_cons.1 h;cases l with
   | nil=>rfl
   | cons f r =>
    rw [show vrises (e::f::r)=(decide (e.i < f.i) && vrises (f::r)) from rfl,(zbH (f::r)).2 h2,decide_eq_true (h1 f List.mem_cons_self)]
    rfl

theorem za9 {l:List Int} (h:I64s l):I64s (nmI l):=by
 intro z hz;unfold nmI at hz;simp only [List.mem_cons] at hz;rcases hz with rfl | rfl | rfl | hz
 ·omega
 ·omega
 ·omega
 ·exact h z hz

theorem zae (ia:Option Addr) (il ic:Nat) (name:List Int) (w:World) (h:IRow w ia il ic name) (hn:il≤1048576) :
  Calls Tryz.prog 87 #[.slice ia il ic] w fun e w'=>∃na nc,e=.returned (.slice na (il+3) nc)∧w'.ownsRow w.heap.size 3 1 (.slice na (il+3) nc) (il+3) (cI (nmI name))∧Below w.heap.size w w':=by
 generalize hw1:w.alloc (Obj.cells #[.int .i64 1,.int .i64 3,.int .i64 1] 3)=w1;have b1:=zb hw1;have k1:=zk hw1;have own:=zT intF (base:=w.heap.size) (l:=[1,3,1]) k1 rfl (Nat.le_refl _) (by simp);have hg:=(h.below b1).flat;have HB1:=hide b1;go_enter Tryz.func87,Tryz.ntmps87;go_wp2_with (at_builtin; refine zw (F:=intF) _ rfl _ _ 27 3 rfl w.heap.size Tryz.underlying27 Tryz.infoI64 rfl (by decide) _ 3 [1,3,1] rfl own ia il ic name rfl hg (by omega) HB1.out.size ?_)
 intro na nc w2 how _ hgr hb;have HB:=hide (HB1.out.trans hb);rw [Nat.add_comm 3 il] at how ⊢;have HO:Hid (w2.ownsRow w.heap.size 3 1 (.slice na (il+3) nc) (il+3) (cI (nmI name))):=hide (by rw [← zF]; exact how);clear how hgr hb own k1 hg b1;go_wp2;go_ret;exact ⟨na,nc,rfl,HO.out,HB.out⟩

theorem zaS (ba:Option Addr) (bc:Nat) (l:List BI) (ia:Option Addr) (il ic:Nat) (name:List Int) (v:Int) (base:Nat) (w:World) (hl:BOwns w base ba l.length bc l) (h:IRow w ia il ic name) (hn:il≤1048576) (hm:l.length≤1000) (hbase:base≤w.heap.size) :
  Calls Tryz.prog 88 #[.slice ba l.length bc,.slice ia il ic,.int .i64 v] w fun e w'=>∃ba' bc' y,e=.returned (.slice ba' (l.length+1) bc')∧BI.d y=numD name v∧BOwns w' base ba' (l++[y]).length bc' (l++[y])∧Below base w w':=by
 obtain ⟨i0,hi,hz0,hz1,hz2⟩:=info_parts Tryz.infoBind';have HI64:=hide (za9 h.byte);have HL0:=hide hl;go_enter Tryz.func88,Tryz.ntmps88;go_wp2_with fail
 refine (zae ia il ic name _ h hn).mono ?_;rintro e w1 ⟨na,nc,rfl,oN,b1⟩;go_wp2_with fail
 refine (zha v _).mono ?_;rintro e w2 ⟨rfl,b2⟩;have b02:=zd b1 b2;have oN:=zbG oN b2;have hl:=hl.below b02;have q3:=zh w2 (.cells #[.slice na (il+3) nc,.int .i64 2,.int .i64 v,.string ⟨#[]⟩,.slice none 0 0] 37);have hnew:=zgV w2 (⟨na,il+3,nc,nmI name,2,v,⟨#[]⟩,none,0,0,[]⟩:BI);have hone:=zgq (⟨na,il+3,nc,nmI name,2,v,⟨#[]⟩,none,0,0,[]⟩:BI);have HB3:=hide (zd b02 q3);have HY:Hid (BOwn (w2.alloc (.cells #[.slice na (il+3) nc,.int .i64 2,.int .i64 v,.string ⟨#[]⟩,.slice none 0 0] 37)) w.heap.size (⟨na,il+3,nc,nmI name,2,v,⟨#[]⟩,none,0,0,[]⟩:BI)):=hide ⟨zbG oN q3,World.ownsRow_nil _ _ _ _,HI64.out,(by intro z hz; cases hz),by show 0≤maxLen; omega⟩;have HL3:=hide (hl.below q3);have HND:Hid (((⟨na,il+3,nc,nmI name,2,v,⟨#[]⟩,none,0,0,[]⟩:BI):BI).blks.Nodup):=hide (by
  show (blkL na++blkL none).Nodup
  cases na <;> simp [blkL])
 have HAP:Hid (∀z∈l,∀b∈z.blks,b∉((⟨na,il+3,nc,nmI name,2,v,⟨#[]⟩,none,0,0,[]⟩:BI):BI).blks):=hide (fun z hz b hb hc=>by
  have h1:=(HY.out.blk b hc).1;have h2:=((HL0.out).item z hz).blk b hb;omega)
 have hrow:=HL3.out.row;have hsz:base≤(w2.alloc (.cells #[.slice na (il+3) nc,.int .i64 2,.int .i64 v,.string ⟨#[]⟩,.slice none 0 0] 37)).heap.size:=Nat.le_trans hbase HB3.out.size;clear b1 b2 b02 oN hl q3 h;go_wp2_with (at_builtin; refine wpList_append_own _ rfl _ _ 39 rfl base 37 i0 (.agg #[.slice none 0 0,.int .i64 0,.int .i64 0,.string ⟨#[]⟩,.slice none 0 0]) 5 80 Tryz.underlying39 hi hz0 hz1 hz2 rfl (by decide) _ l.length (cBs l) rfl hrow ⟨w2.heap.size,0,none⟩ 1 1 (⟨na,il+3,nc,nmI name,2,v,⟨#[]⟩,none,0,0,[]⟩:BI).cs rfl rfl hnew hone ?c1 ?c2 ?c3 ?_)
 case c1=>unfold maxLen; omega
 case c2=>omega
 case c3=>exact hsz
 intro v' w5 how hgr _;obtain ⟨lo',cap',rfl⟩:=zhs how;have hpush:=HL3.out.push (HY.out.lt hbase) HND.out HAP.out hgr how;have HB5:=hide ((HB3.out.mono hbase).trans (ziY HL3.out hgr hsz));have HP5:=hide hpush;clear how hgr hpush hrow hnew hone;go_wp2;go_ret;exact ⟨lo',cap',(⟨na,il+3,nc,nmI name,2,v,⟨#[]⟩,none,0,0,[]⟩:BI),rfl,rfl,by simpa using HP5.out,HB5.out⟩

theorem zeD (a:Option Addr) (n c:Nat) (fa:Option Addr) (fn fc:Nat) (ra:Option Addr) (rn rc:Nat) (oa:Option Addr) (on oc:Nat) (B:BR) (cc:Int) (p:Nat) (x:PT) (w:World) (h:BrRow w a n c fa fn fc ra rn rc oa on oc B) (hx:B.ports[p]? = some x) (ho:p < on) :
  Calls Tryz.prog 89 #[.agg #[.int .i64 B.id,.string B.name,.slice a n c,.slice fa fn fc,.slice ra rn rc,.slice oa on oc,.int .i64 B.ticks,.int .i64 B.parse,.int .i64 B.word,.int .i64 B.drops,.int .i64 B.vers],.int .i64 cc,.int .i64 (p:Int)] w fun e w'=>e=.returned (.int .i64 (portW B cc p x))∧Below w.heap.size w w':=by
 generalize hw1:w.alloc (Obj.cells #[.int .i64 B.id,.string B.name,.slice a n c,.slice fa fn fc,.slice ra rn rc,.slice oa on oc,.int .i64 B.ticks,.int .i64 B.parse,.int .i64 B.word,.int .i64 B.drops,.int .i64 B.vers] 31)=w1;have b1:=zb hw1;have k1:=zk hw1;obtain ⟨x0,x1,x2,x3,x4,x5,x6,x7,x8,x9,x10⟩:=zj k1;have hpn:p < n:=by have h1:=(List.getElem?_eq_some_iff.1 hx).1; have h2:=h.ports.size; omega
 obtain ⟨x',b,off,hx',rfl,p0,p1,-⟩:=pt_at (h.ports.below b1) p hpn;rw [hx] at hx';cases hx';obtain ⟨v,b2,off2,hv,rfl,o0⟩:=zfD (h.v.own.below b1) p ho;have hle:=h.ports.le;have htop:=h.ports.top;have hle2:=h.v.own.le;have htop2:=h.v.own.top;unfold maxLen at htop htop2;have HROW:=hide (h.ports.below b1);have HB:=hide b1;have HV:=hide hv;have i1:(0:Int)≤(p:Int):=by omega
 have i2:(p:Int) < (n:Int):=by omega
 have i3:(p:Int) < (on:Int):=by omega
 clear hx h hv b1 k1;by_cases e1:cc=1
 ·subst e1;have HW:Hid (portW B 1 p x=if x.up=true then 1 else 0):=hide (by unfold portW; rw [if_pos rfl]);rw [HW.out];clear o0 HW;cases hu:x.up
  ·rw [hu] at p0;go_enter Tryz.func89,Tryz.ntmps89;go_wp2;go_ret;exact ⟨rfl,HB.out⟩
  ·rw [hu] at p0;go_enter Tryz.func89,Tryz.ntmps89;go_wp2;go_ret;exact ⟨rfl,HB.out⟩
 have n1:(cc == 1)=false:=by simp [e1]
 by_cases e2:cc=2
 ·subst e2;have HW:Hid (portW B 2 p x=x.k):=hide (by unfold portW; rw [if_neg (by decide),if_pos rfl]);rw [HW.out];clear o0 HW;go_enter Tryz.func89,Tryz.ntmps89;go_wp2;go_ret;exact ⟨rfl,HB.out⟩
 have n2:(cc == 2)=false:=by simp [e2]
 by_cases e3:cc=3
 ·subst e3;have HW:Hid (portW B 3 p x=zaC B.id B.ports (p:Int)):=hide (by unfold portW; rw [if_neg (by decide),if_neg (by decide),if_pos rfl]);rw [HW.out];clear o0 p0 p1 HW;go_enter Tryz.func89,Tryz.ntmps89;(go_wp2_with fail);refine (zfo B.id _ n c B.ports (p:Int) _ HROW.out).mono ?_;rintro e w2 ⟨rfl,hb2⟩;have HB2:=hide (zd HB.out hb2);clear hb2 x0 x1 x2 x3 x4 x5 x6 x7 x8 x9 x10;go_wp2;go_ret;exact ⟨rfl,HB2.out⟩
 have n3:(cc == 3)=false:=by simp [e3]
 have HW:Hid (portW B cc p x=v):=hide (by unfold portW; rw [if_neg e1,if_neg e2,if_neg e3,HV.out]; rfl);rw [HW.out];clear p0 p1 HW;go_enter Tryz.func89,Tryz.ntmps89;go_wp2;go_ret;exact ⟨rfl,HB.out⟩

theorem zfp (r:VR) (cc:Int) (w:World) :
  Calls Tryz.prog 90 #[.agg #[.int .i64 r.i,.int .i64 r.m,.int .i64 r.b],.int .i64 cc] w fun e w'=>e=.returned (.int .i64 (rowW r cc))∧Below w.heap.size w w':=by
 have b1:=zh w (.cells #[.int .i64 r.i,.int .i64 r.m,.int .i64 r.b] 119);by_cases e1:cc=1
 ·subst e1;rw [show rowW r 1=1 from rfl];go_enter Tryz.func90,Tryz.ntmps90;go_wp2;go_ret;exact ⟨rfl,b1⟩
 have n1:(cc == 1)=false:=by simp [e1]
 by_cases e2:cc=2
 ·subst e2;rw [show rowW r 2=r.m from rfl];go_enter Tryz.func90,Tryz.ntmps90;go_wp2;go_ret;exact ⟨rfl,b1⟩
 have n2:(cc == 2)=false:=by simp [e2]
 rw [show rowW r cc=r.b by unfold rowW; rw [if_neg e1,if_neg e2]];go_enter Tryz.func90,Tryz.ntmps90;go_wp2;go_ret;exact ⟨rfl,b1⟩

end Go.Proofs.YtcpdkcdfnpcemaaGreat
