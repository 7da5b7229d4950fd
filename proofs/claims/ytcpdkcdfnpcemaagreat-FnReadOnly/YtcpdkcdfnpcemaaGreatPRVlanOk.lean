/-
  Whether a table is right, the program's own.
-/
import Derived.Test.YtcpdkcdfnpcemaaGreatPRK04
import Derived.Test.YtcpdkcdfnpcemaaGreatPRVtabOkS
namespace Go.Proofs.YtcpdkcdfnpcemaaGreat
set_option maxRecDepth 100000
set_option maxHeartbeats 16000000
open Go.RowKit

theorem zaQ (x lo hi:Int) (w:World) :
  Calls Tryz.prog 64 #[.int .i64 x,.int .i64 lo,.int .i64 hi] w fun e w'=>e=.returned (.bool (decide (lo≤x) && decide (x≤hi)))∧w'=w:=by
 by_cases h1:lo≤x
 ·go_enter Tryz.func64,Tryz.ntmps64;go_wp2;go_ret;exact ⟨zH (by simp [h1]),rfl⟩
 ·go_enter Tryz.func64,Tryz.ntmps64;go_wp2;go_ret;exact ⟨zH (by rw [decide_eq_false (show ¬lo≤x by omega)]; rfl),rfl⟩

theorem za7 (p:Nat) (h1:1≤p) (h6:p≤6) (w:World) :
  Calls Tryz.prog 155 #[.int .i64 p] w fun e w'=>e=.returned (.int .i64 (allOf p))∧w'=w:=by
 rcases (show p=1∨p=2∨p=3∨p=4∨p=5∨p=6 by omega) with rfl | rfl | rfl | rfl | rfl | rfl
 ·show Calls Tryz.prog 155 #[.int .i64 1] w _
  go_enter Tryz.func155,Tryz.ntmps155;go_wp2;go_ret;exact ⟨rfl,rfl⟩
 ·show Calls Tryz.prog 155 #[.int .i64 2] w _
  go_enter Tryz.func155,Tryz.ntmps155;go_wp2;go_ret;exact ⟨rfl,rfl⟩
 ·show Calls Tryz.prog 155 #[.int .i64 3] w _
  go_enter Tryz.func155,Tryz.ntmps155;go_wp2;go_ret;exact ⟨rfl,rfl⟩
 ·show Calls Tryz.prog 155 #[.int .i64 4] w _
  go_enter Tryz.func155,Tryz.ntmps155;go_wp2;go_ret;exact ⟨rfl,rfl⟩
 ·show Calls Tryz.prog 155 #[.int .i64 5] w _
  go_enter Tryz.func155,Tryz.ntmps155;go_wp2;go_ret;exact ⟨rfl,rfl⟩
 ·show Calls Tryz.prog 155 #[.int .i64 6] w _
  go_enter Tryz.func155,Tryz.ntmps155;go_wp2;go_ret;exact ⟨rfl,rfl⟩

def zef (l:List VR) (k:Nat):Prop:=∀(i:Nat) (x y:VR),i+1 < k→l[i]? = some x→l[i+1]? = some y→x.i < y.i

theorem zfL {l:List VR} {k:Nat} {x y:VR} (h:zef l (k+1)) (hy:l[k]? = some y) (hx:l[k+1]? = some x) (hl:y.i < x.i):zef l (k+1+1):=by
 intro i a b hi ha hb;by_cases e:i=k
 ·subst e;rw [hy] at ha;rw [hx] at hb;cases ha;cases hb;exact hl
 ·exact h i a b (by omega) ha hb

theorem zcR:∀(l:List VR),vrises l=true↔zef l l.length
 | []=>by simp [vrises,zef]
 | [e]=>by
  simp only [vrises,zef,List.length_singleton,true_iff];intro i x y hi;omega
 | e::f::r=>by
  have ih:=zcR (f::r);rw [show vrises (e::f::r)=(decide (e.i < f.i) && vrises (f::r)) from rfl];simp only [Bool.and_eq_true,decide_eq_true_eq]
  constructor
  ·rintro ⟨h1,h2⟩ i x y hi hx hy;have h2:=ih.1 h2
   match i,hx,hy with
   | 0,hx,hy =>
    simp at hx hy
    subst hx hy;exact h1
   | i+1,hx,hy=>exact h2 i x y (by simp at hi ⊢; omega) (by simpa using hx) (by simpa using hy)
  ·intro h;exact ⟨h 0 e f (by simp) rfl rfl,ih.2 (fun i x y hi hx hy=>h (i+1) x y (by simp at hi ⊢; omega) (by simpa using hx) (by simpa using hy))⟩

theorem zi9 {l:List VR} {k:Nat} {x y:VR} (hy:l[k]? = some y) (hx:l[k+1]? = some x) (hl:¬y.i < x.i):vrises l=false:=by
 cases h:vrises l
 ·rfl
 ·exact absurd ((zcR l).1 h k y x (List.getElem?_eq_some_iff.1 hx).1 hy hx) hl

theorem zcd (a:Option Addr) (n c:Nat) (l:List VR) (w:World) (h:GRow vrowF w a n c l) :
  Calls Tryz.prog 144 #[.slice a n c] w fun e w'=>e=.returned (.bool (vrises l))∧Below w.heap.size w w':=by
 have hle:=h.le;have htop:=h.top;unfold maxLen at htop;have hsz:=hide h.size;have hm:=zcO;generalize hR:vrises l=R;have HR:=hide hR;clear hR;go_enter Tryz.func144,Tryz.ntmps144;go_wp2
 go_loopw [3] (fun i wr=>∃k:Nat,(k≤n∨k=0)∧i=.int .i64 ((k:Int)+1)∧zef l (k+1)∧Below w.heap.size w wr) (fun i _=>n+1 - (intOf i).toNat)
 case atStart=>exact ⟨0,Or.inr rfl,rfl,fun i x y hi=>by omega,Below.refl _ _⟩
 case round =>
  obtain ⟨k,hk,rfl,hto,hb⟩:=hrel;by_cases hlt:k+1 < n
  ·obtain ⟨y,b,off,hy,rfl,d0,d1,d2⟩:=zaI (h.below hb) k (by omega);obtain ⟨x,b',off',hx,e',c0,c1,c2⟩:=zaI (h.below hb) (k+1) hlt;cases e';have vv:Below wr.heap.size wr wr.drew:=zr (Below.refl _ _);have HS:Hid (∀W,Below wr.heap.size wr W→(zcc W b (off+k*3) (.int .i64 y.i)∧zcc W b (off+k*3+1) (.int .i64 y.m)∧zcc W b (off+k*3+2) (.int .i64 y.b))∧(zcc W b (off+(k+1)*3) (.int .i64 x.i)∧zcc W b (off+(k+1)*3+1) (.int .i64 x.m)∧zcc W b (off+(k+1)*3+2) (.int .i64 x.b))):=hide (fun W hW=>⟨⟨zf d0 hW,zf d1 hW,zf d2 hW⟩,zf c0 hW,zf c1 hW,zf c2 hW⟩);have i0:IntKind.i64.wrap (k:Int)=(k:Int):=by rw [IntKind.wrap_i64]; omega
   have i1:(0:Int)≤(k:Int)∧(k:Int) < (n:Int):=by omega
   have i2:(0:Int)≤(k:Int)+1∧(k:Int)+1 < (n:Int):=by omega
   have i3:((k:Int)+1).toNat=k+1:=by omega
   by_cases hl:y.i < x.i
   ·have HO:=hide (zfL hto hy hx hl);clear hto hy hx d0 d1 d2 c0 c1 c2;(go_wp2_with fail);refine wp_region_held_drew (S:=(fun W=>(zcc W b (off+k*3) (.int .i64 y.i)∧zcc W b (off+k*3+1) (.int .i64 y.m)∧zcc W b (off+k*3+2) (.int .i64 y.b))∧(zcc W b (off+(k+1)*3) (.int .i64 x.i)∧zcc W b (off+(k+1)*3+1) (.int .i64 x.m)∧zcc W b (off+(k+1)*3+2) (.int .i64 x.b)))) (by kernel_rfl) (HS.out _ vv) (fun hHeld => ?_);refine kK 0 ?_;refine kK 1 ?_;refine kK 2 ?_;refine kK 3 ?_;refine kK 4 ?_;refine kK 5 ?_;refine kK 7 ?_;refine kK 8 ?_;refine kK 9 ?_;refine kK 10 ?_;refine kK 11 ?_;refine kR 6 fun K hK => ?_
    go_simp;refine (zat y _).mono ?_;rintro e wz ⟨rfl,hbz⟩;have vv:=zd vv hbz;(go_wp2_with fail);refine kO hK (HS.out _ vv) fun hHeld => ?_
    clear hK K;refine kR 12 fun K hK => ?_
    go_simp;refine (zat x _).mono ?_;rintro e wz ⟨rfl,hbz⟩;have vv:=zd vv hbz;(go_wp2_with fail);refine kO hK (HS.out _ vv) fun hHeld => ?_
    clear hK K;refine kV 13 (.bool false) ?_;refine wpAnyH_done (by kernel_rfl) ?_ _;have HB1:=hide (zd hb vv);clear HS vv hb;go_wp2
    go_roundw
    case rel=>exact ⟨k+1,by omega,by go_num,HO.out,HB1.out⟩
    case measure=>simp [intOf]; omega
   ·have HF:=hide (zi9 hy hx hl);clear hto hy hx d0 d1 d2 c0 c1 c2;(go_wp2_with fail);refine wp_region_held_drew (S:=(fun W=>(zcc W b (off+k*3) (.int .i64 y.i)∧zcc W b (off+k*3+1) (.int .i64 y.m)∧zcc W b (off+k*3+2) (.int .i64 y.b))∧(zcc W b (off+(k+1)*3) (.int .i64 x.i)∧zcc W b (off+(k+1)*3+1) (.int .i64 x.m)∧zcc W b (off+(k+1)*3+2) (.int .i64 x.b)))) (by kernel_rfl) (HS.out _ vv) (fun hHeld => ?_);refine kK 0 ?_;refine kK 1 ?_;refine kK 2 ?_;refine kK 3 ?_;refine kK 4 ?_;refine kK 5 ?_;refine kK 7 ?_;refine kK 8 ?_;refine kK 9 ?_;refine kK 10 ?_;refine kK 11 ?_;refine kR 6 fun K hK => ?_
    go_simp;refine (zat y _).mono ?_;rintro e wz ⟨rfl,hbz⟩;have vv:=zd vv hbz;(go_wp2_with fail);refine kO hK (HS.out _ vv) fun hHeld => ?_
    clear hK K;refine kR 12 fun K hK => ?_
    go_simp;refine (zat x _).mono ?_;rintro e wz ⟨rfl,hbz⟩;have vv:=zd vv hbz;(go_wp2_with fail);refine kO hK (HS.out _ vv) fun hHeld => ?_
    clear hK K;refine kV 13 (.bool true) ?_;refine wpAnyH_done (by kernel_rfl) ?_ _;have HB1:=hide (zd hb vv);clear HS vv hb;go_wp2;go_ret;exact ⟨(by rw [← HR.out,HF.out]; rfl),HB1.out⟩
  ·have HF:Hid (vrises l=true):=hide ((zcR l).2 (fun i x y hi hx hy=>hto i x y (by have:=hsz.out; omega) hx hy));have HB:=hide hb;clear hto hb;go_wp2;go_ret;exact ⟨(by rw [← HR.out,HF.out]; rfl),HB.out⟩

theorem zcw (r:VR) (p:Nat) (w:World) (hr:r.Rng) (hp1:1≤p) (hp6:p≤6) :
  Calls Tryz.prog 145 #[.agg #[.int .i64 r.i,.int .i64 r.m,.int .i64 r.b],.int .i64 p] w fun e w'=>e=.returned (.bool (zaY (allOf p) r))∧Below w.heap.size w w':=by
 rw [← zhW r p hr hp6];generalize hw1:w.alloc (Obj.cells #[.int .i64 r.i,.int .i64 r.m,.int .i64 r.b] 119)=w1;have q:=zb hw1;have k0:=zk hw1;have HS:Hid (∀W,Below w1.heap.size w1 W→zcc W w.heap.size 0 (.int .i64 r.i)∧zcc W w.heap.size 1 (.int .i64 r.m)∧zcc W w.heap.size 2 (.int .i64 r.b)):=hide (fun W hW=>(zas (ze k0 hW)).1);clear k0;have vv:Below w1.heap.size w1 w1.drew:=zr (Below.refl _ _);cases h1:in3 r.i 1 99
 ·have H1:=hide h1;clear h1;simp only [Bool.false_and];go_enter Tryz.func145,Tryz.ntmps145;(go_wp2_with fail);refine wp_region_held_drew (S:=(fun W=>zcc W w.heap.size 0 (.int .i64 r.i)∧zcc W w.heap.size 1 (.int .i64 r.m)∧zcc W w.heap.size 2 (.int .i64 r.b))) (by kernel_rfl) (HS.out _ vv) (fun hHeld => ?_);refine kK 0 ?_;refine kK 1 ?_;refine kR 2 fun K hK => ?_
  go_simp;refine (zaQ r.i 1 99 _).mono ?_;rintro e wz ⟨rfl,rfl⟩;rw [show (decide (1≤r.i) && decide (r.i≤99))=false from H1.out];(go_wp2_with fail);refine kO hK (HS.out _ vv) fun hHeld => ?_
  clear hK K;refine kK 3 ?_;refine kN 4 ?_;refine kN 5 ?_;refine kN 6 ?_;refine kN 7 ?_;refine kN 8 ?_;refine kN 9 ?_;refine kK 10 ?_;refine kK 11 ?_;refine kN 12 ?_;refine kN 13 ?_;refine kN 14 ?_;refine kN 15 ?_;refine kN 16 ?_;refine kN 17 ?_;refine kK 18 ?_;refine kK 19 ?_;refine wpAnyH_done (by kernel_rfl) ?_ _;have HB:=hide (zd q vv);clear HS vv q;go_wp2;go_ret;exact ⟨rfl,HB.out⟩
 ·have H1:=hide h1;clear h1;cases h2:(bits .andNot .i64 r.m (allOf p) == 0)
  ·simp only [Bool.true_and,Bool.false_and];go_enter Tryz.func145,Tryz.ntmps145;(go_wp2_with fail);refine wp_region_held_drew (S:=(fun W=>zcc W w.heap.size 0 (.int .i64 r.i)∧zcc W w.heap.size 1 (.int .i64 r.m)∧zcc W w.heap.size 2 (.int .i64 r.b))) (by kernel_rfl) (HS.out _ vv) (fun hHeld => ?_);refine kK 0 ?_;refine kK 1 ?_;refine kR 2 fun K hK => ?_
   go_simp;refine (zaQ r.i 1 99 _).mono ?_;rintro e wz ⟨rfl,rfl⟩;rw [show (decide (1≤r.i) && decide (r.i≤99))=true from H1.out];(go_wp2_with fail);refine kO hK (HS.out _ vv) fun hHeld => ?_
   clear hK K;refine kK 3 ?_;refine kK 4 ?_;refine kK 5 ?_;refine kK 6 ?_;refine kR 7 fun K hK => ?_
   go_simp;refine (za7 p hp1 hp6 _).mono ?_;rintro e wz ⟨rfl,rfl⟩;(go_wp2_with fail);refine kO hK (HS.out _ vv) fun hHeld => ?_
   clear hK K;refine kK 8 ?_;refine kV 9 (.bool false) ?_;refine kK 10 ?_;refine kK 11 ?_;refine kN 12 ?_;refine kN 13 ?_;refine kN 14 ?_;refine kN 15 ?_;refine kN 16 ?_;refine kN 17 ?_;refine kK 18 ?_;refine kK 19 ?_;refine wpAnyH_done (by kernel_rfl) ?_ _;have HB:=hide (zd q vv);clear HS vv q;go_wp2;go_ret;exact ⟨rfl,HB.out⟩
  ·simp only [Bool.true_and];generalize hd:(bits .andNot .i64 r.b r.m == 0)=d;go_enter Tryz.func145,Tryz.ntmps145;(go_wp2_with fail);refine wp_region_held_drew (S:=(fun W=>zcc W w.heap.size 0 (.int .i64 r.i)∧zcc W w.heap.size 1 (.int .i64 r.m)∧zcc W w.heap.size 2 (.int .i64 r.b))) (by kernel_rfl) (HS.out _ vv) (fun hHeld => ?_);refine kK 0 ?_;refine kK 1 ?_;refine kR 2 fun K hK => ?_
   go_simp;refine (zaQ r.i 1 99 _).mono ?_;rintro e wz ⟨rfl,rfl⟩;rw [show (decide (1≤r.i) && decide (r.i≤99))=true from H1.out];(go_wp2_with fail);refine kO hK (HS.out _ vv) fun hHeld => ?_
   clear hK K;refine kK 3 ?_;refine kK 4 ?_;refine kK 5 ?_;refine kK 6 ?_;refine kR 7 fun K hK => ?_
   go_simp;refine (za7 p hp1 hp6 _).mono ?_;rintro e wz ⟨rfl,rfl⟩;(go_wp2_with fail);refine kO hK (HS.out _ vv) fun hHeld => ?_
   clear hK K;refine kK 8 ?_;refine kV 9 (.bool true) ?_;refine kK 10 ?_;refine kK 11 ?_;refine kK 12 ?_;refine kK 13 ?_;refine kK 14 ?_;refine kK 15 ?_;refine kK 16 ?_;refine kV 17 (.bool d) ?_;refine kK 18 ?_;refine kK 19 ?_;refine wpAnyH_done (by kernel_rfl) ?_ _;have HB:=hide (zd q vv);clear HS vv q;go_wp2;go_ret;exact ⟨rfl,HB.out⟩

theorem zjd {v:VT} {ports:Int} (h:(decide (1≤ports) && decide (ports≤6))=false):zO v ports=false:=by
 unfold zO in3;rw [h]
 rfl
theorem ziP {v:VT} {ports:Int} (h:¬(v.own.length:Int)=ports):zO v ports=false:=by
 unfold zO;rw [show ((v.own.length:Int) == ports)=false by simpa using h]
 simp
theorem zhX {v:VT} {ports:Int} (h:¬v.rows.length≤6):zO v ports=false:=by
 unfold zO;rw [decide_eq_false h]
 simp
theorem zhY {v:VT} {ports:Int} (h:vrises v.rows=false):zO v ports=false:=by
 unfold zO;rw [h]
 simp
theorem ziQ {v:VT} {p k:Nat} {x:VR} (hx:v.rows[k]? = some x) (h:zaY (allOf p) x=false):zO v p=false:=by
 have:v.rows.all (zaY (allOf p))=false:=by
  rw [List.all_eq_false];exact ⟨x,List.mem_of_getElem? hx,by rw [h]; simp⟩
 unfold zO;rw [Int.toNat_natCast,this]
 simp

def zgb (A:Int) (l:List VR) (k:Nat):Prop:=∀(i:Nat) (x:VR),i < k→l[i]? = some x→zaY A x=true

theorem zfP {A:Int} {l:List VR} {k:Nat} {x:VR} (h:zgb A l k) (hx:l[k]? = some x) (h1:zaY A x=true):zgb A l (k+1):=by
 intro i z hi hz;by_cases e:i=k
 ·subst e;rw [hx] at hz;cases hz;exact h1
 ·exact h i z (by omega) hz

theorem ziN {A:Int} {l:List VR} (h:zgb A l l.length) (hr:vrises l=true):vokTo A l l.length:=by
 refine (zcX A l).1 ⟨List.all_eq_true.2 fun x hx => ?_,hr⟩;obtain ⟨i,hi⟩:=List.mem_iff_getElem?.1 hx;exact h i x (List.getElem?_eq_some_iff.1 hi).1 hi

end Go.Proofs.YtcpdkcdfnpcemaaGreat
