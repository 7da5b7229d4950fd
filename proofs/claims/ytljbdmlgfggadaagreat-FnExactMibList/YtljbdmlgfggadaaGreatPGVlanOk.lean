/-
  Whether a table is right, the program's own.
-/
import Derived.Test.YtljbdmlgfggadaaGreatPGK05
import Derived.Test.YtljbdmlgfggadaaGreatPGVtabOkS
namespace Go.Proofs.YtljbdmlgfggadaaGreat
set_option maxRecDepth 100000
set_option maxHeartbeats 16000000
open Go.RowKit

abbrev q192:Oper:=⟨some 10,.move (.tmp 0),170,"l09_vlan.go:143",#[],none⟩
abbrev q193:Oper:=⟨some 11,.move (.tmp 3),3,"l09_vlan.go:143",#[],none⟩
abbrev q194:Oper:=⟨some 12,.binOp .sub 3 (.tmp 11) (.const (.int .i64 1)) 3,3,"l09_vlan.go:143",#[⟨1,.data⟩],none⟩
abbrev q195:Oper:=⟨some 13,.indexAddr 170 (.tmp 10) (.tmp 12),0,"l09_vlan.go:143",#[⟨0,.data⟩,⟨2,.data⟩],none⟩
abbrev q196:Oper:=⟨some 14,.load 82 (.tmp 13),82,"l09_vlan.go:143",#[⟨3,.data⟩],none⟩
abbrev q197:Oper:=⟨some 15,.makeInterface 82 (.tmp 14),20,"l09_vlan.go:143",#[⟨4,.data⟩],none⟩
abbrev q198:Oper:=⟨some 17,.move (.tmp 0),170,"l09_vlan.go:143",#[],none⟩
abbrev q199:Oper:=⟨some 18,.move (.tmp 3),3,"l09_vlan.go:143",#[],none⟩
abbrev q200:Oper:=⟨some 19,.indexAddr 170 (.tmp 17) (.tmp 18),0,"l09_vlan.go:143",#[⟨7,.data⟩,⟨8,.data⟩],none⟩
abbrev q201:Oper:=⟨some 20,.load 82 (.tmp 19),82,"l09_vlan.go:143",#[⟨9,.data⟩],none⟩
abbrev q202:Oper:=⟨some 21,.makeInterface 82 (.tmp 20),20,"l09_vlan.go:143",#[⟨10,.data⟩],none⟩
abbrev q203:Oper:=⟨some 16,.call ⟨.invoke (.tmp 15) "loop.example/g00326/impl.number",#[],#[]⟩,3,"l09_vlan.go:143",#[⟨5,.data⟩],none⟩
abbrev q204:Oper:=⟨some 22,.call ⟨.invoke (.tmp 21) "loop.example/g00326/impl.number",#[],#[]⟩,3,"l09_vlan.go:143",#[⟨11,.data⟩,⟨6,.chain⟩],none⟩
abbrev q205:Oper:=⟨some 23,.binOp .geq 3 (.tmp 16) (.tmp 22) 3,4,"l09_vlan.go:143",#[⟨6,.data⟩,⟨12,.data⟩],none⟩
abbrev q206:Oper:=⟨some 5,.fieldAddr 82 (.tmp 2) 0,0,"l09_vlan.go:119",#[],none⟩
abbrev q207:Oper:=⟨some 6,.load 3 (.tmp 5),3,"l09_vlan.go:119",#[⟨0,.data⟩],none⟩
abbrev q208:Oper:=⟨some 7,.call ⟨.value (.func 108),#[.tmp 6,.const (.int .i64 1),.const (.int .i64 99)],#[3,3,3]⟩,4,"l09_vlan.go:119",#[⟨1,.data⟩],none⟩
abbrev q209:Oper:=⟨some 8,.move (.tmp 7),4,"l09_vlan.go:119",#[⟨2,.data⟩,⟨2,.chain⟩],none⟩
abbrev q210:Oper:=⟨some 9,.fieldAddr 82 (.tmp 2) 1,0,"l09_vlan.go:119",#[⟨3,.guard⟩],some (3,true)⟩
abbrev q211:Oper:=⟨some 10,.load 3 (.tmp 9),3,"l09_vlan.go:119",#[⟨4,.data⟩,⟨3,.guard⟩],some (3,true)⟩
abbrev q212:Oper:=⟨some 11,.move (.tmp 1),3,"l09_vlan.go:119",#[⟨3,.guard⟩],some (3,true)⟩
abbrev q213:Oper:=⟨some 12,.call ⟨.value (.func 162),#[.tmp 11],#[3]⟩,3,"l09_vlan.go:119",#[⟨6,.data⟩,⟨3,.chain⟩,⟨3,.guard⟩],some (3,true)⟩
abbrev q214:Oper:=⟨some 13,.binOp .andNot 3 (.tmp 10) (.tmp 12) 3,3,"l09_vlan.go:119",#[⟨5,.data⟩,⟨7,.data⟩,⟨3,.guard⟩],some (3,true)⟩
abbrev q215:Oper:=⟨some 14,.binOp .eql 3 (.tmp 13) (.const (.int .i64 0)) 3,4,"l09_vlan.go:119",#[⟨8,.data⟩,⟨3,.guard⟩],some (3,true)⟩
abbrev q216:Oper:=⟨some 15,.pick (.tmp 8) (.tmp 14) (.const (.bool false)),4,"l09_vlan.go:119",#[⟨3,.data⟩,⟨9,.data⟩],none⟩
abbrev q217:Oper:=⟨some 16,.move (.tmp 15),4,"l09_vlan.go:119",#[⟨10,.data⟩,⟨7,.chain⟩],none⟩
abbrev q218:Oper:=⟨some 17,.fieldAddr 82 (.tmp 2) 2,0,"l09_vlan.go:119",#[⟨11,.guard⟩],some (11,true)⟩
abbrev q219:Oper:=⟨some 18,.load 3 (.tmp 17),3,"l09_vlan.go:119",#[⟨12,.data⟩,⟨11,.guard⟩],some (11,true)⟩
abbrev q220:Oper:=⟨some 19,.fieldAddr 82 (.tmp 2) 1,0,"l09_vlan.go:119",#[⟨11,.guard⟩],some (11,true)⟩
abbrev q221:Oper:=⟨some 20,.load 3 (.tmp 19),3,"l09_vlan.go:119",#[⟨14,.data⟩,⟨11,.guard⟩],some (11,true)⟩
abbrev q222:Oper:=⟨some 21,.binOp .andNot 3 (.tmp 18) (.tmp 20) 3,3,"l09_vlan.go:119",#[⟨13,.data⟩,⟨15,.data⟩,⟨11,.guard⟩],some (11,true)⟩
abbrev q223:Oper:=⟨some 22,.binOp .eql 3 (.tmp 21) (.const (.int .i64 0)) 3,4,"l09_vlan.go:119",#[⟨16,.data⟩,⟨11,.guard⟩],some (11,true)⟩
abbrev q224:Oper:=⟨some 23,.pick (.tmp 16) (.tmp 22) (.const (.bool false)),4,"l09_vlan.go:119",#[⟨11,.data⟩,⟨17,.data⟩],none⟩
abbrev q225:Oper:=⟨some 4,.assign (.tmp 23),4,"l09_vlan.go:119",#[⟨18,.data⟩,⟨11,.chain⟩,⟨0,.phase⟩,⟨1,.phase⟩,⟨2,.phase⟩,⟨3,.phase⟩,⟨4,.phase⟩,⟨5,.phase⟩,⟨6,.phase⟩,⟨7,.phase⟩,⟨8,.phase⟩,⟨9,.phase⟩,⟨10,.phase⟩,⟨11,.phase⟩,⟨12,.phase⟩,⟨13,.phase⟩,⟨14,.phase⟩,⟨15,.phase⟩,⟨16,.phase⟩,⟨17,.phase⟩,⟨18,.phase⟩],none⟩

theorem zaO (x lo hi:Int) (w:World) :
  Calls Tryz.prog 108 #[.int .i64 x,.int .i64 lo,.int .i64 hi] w fun e w'=>e=.returned (.bool (decide (lo≤x) && decide (x≤hi)))∧w'=w:=by
 by_cases h1:lo≤x
 ·go_enter Tryz.func108,Tryz.ntmps108;go_wp2;go_ret;exact ⟨zt (by simp [h1]),rfl⟩
 ·go_enter Tryz.func108,Tryz.ntmps108;go_wp2;go_ret;exact ⟨zt (by rw [decide_eq_false (show ¬lo≤x by omega)]; rfl),rfl⟩

theorem zdm (p:Nat) (h1:1≤p) (h6:p≤6) (w:World) :
  Calls Tryz.prog 162 #[.int .i64 p] w fun e w'=>e=.returned (.int .i64 (allOf p))∧w'=w:=by
 rcases (show p=1∨p=2∨p=3∨p=4∨p=5∨p=6 by omega) with rfl | rfl | rfl | rfl | rfl | rfl
 ·show Calls Tryz.prog 162 #[.int .i64 1] w _
  go_enter Tryz.func162,Tryz.ntmps162;go_wp2;go_ret;exact ⟨rfl,rfl⟩
 ·show Calls Tryz.prog 162 #[.int .i64 2] w _
  go_enter Tryz.func162,Tryz.ntmps162;go_wp2;go_ret;exact ⟨rfl,rfl⟩
 ·show Calls Tryz.prog 162 #[.int .i64 3] w _
  go_enter Tryz.func162,Tryz.ntmps162;go_wp2;go_ret;exact ⟨rfl,rfl⟩
 ·show Calls Tryz.prog 162 #[.int .i64 4] w _
  go_enter Tryz.func162,Tryz.ntmps162;go_wp2;go_ret;exact ⟨rfl,rfl⟩
 ·show Calls Tryz.prog 162 #[.int .i64 5] w _
  go_enter Tryz.func162,Tryz.ntmps162;go_wp2;go_ret;exact ⟨rfl,rfl⟩
 ·show Calls Tryz.prog 162 #[.int .i64 6] w _
  go_enter Tryz.func162,Tryz.ntmps162;go_wp2;go_ret;exact ⟨rfl,rfl⟩

def zex (l:List VR) (k:Nat):Prop:=∀(i:Nat) (x y:VR),i+1 < k→l[i]?=some x→l[i+1]?=some y→x.i < y.i

theorem zf1 {l:List VR} {k:Nat} {x y:VR} (h:zex l (k+1)) (hy:l[k]?=some y) (hx:l[k+1]?=some x) (hl:y.i < x.i):zex l (k+1+1):=by
 intro i a b hi ha hb;by_cases e:i=k
 ·subst e;rw [hy] at ha;rw [hx] at hb;cases ha;cases hb;exact hl
 ·exact h i a b (by omega) ha hb

theorem zeU:∀(l:List VR),vrises l=true↔zex l l.length
 | []=>by simp [vrises,zex]
 | [e]=>by
  simp only [vrises,zex,List.length_singleton,true_iff];intro i x y hi;omega
 | e::f::r=>by
  have ih:=zeU (f::r);rw [show vrises (e::f::r)=(decide (e.i < f.i) && vrises (f::r)) from rfl];simp only [Bool.and_eq_true,decide_eq_true_eq]
  constructor
  ·rintro ⟨h1,h2⟩ i x y hi hx hy;have h2:=ih.1 h2
   match i,hx,hy with
   | 0,hx,hy =>
    simp at hx hy
    subst hx hy;exact h1
   | i+1,hx,hy=>exact h2 i x y (by simp at hi ⊢; omega) (by simpa using hx) (by simpa using hy)
  ·intro h;exact ⟨h 0 e f (by simp) rfl rfl,ih.2 (fun i x y hi hx hy=>h (i+1) x y (by simp at hi ⊢; omega) (by simpa using hx) (by simpa using hy))⟩

theorem ziZ {l:List VR} {k:Nat} {x y:VR} (hy:l[k]?=some y) (hx:l[k+1]?=some x) (hl:¬y.i < x.i):vrises l=false:=by
 cases h:vrises l
 ·rfl
 ·exact absurd ((zeU l).1 h k y x (List.getElem?_eq_some_iff.1 hx).1 hy hx) hl

theorem zcm (a:Option Addr) (n c:Nat) (l:List VR) (w:World) (h:GRow vrowF w a n c l) :
  Calls Tryz.prog 151 #[.slice a n c] w fun e w'=>e=.returned (.bool (vrises l))∧Below w.heap.size w w':=by
 have hle:=h.le;have htop:=h.top;unfold maxLen at htop;have hsz:=hide h.size;have hm:=zfk;generalize hR:vrises l=R;have HR:=hide hR;clear hR;go_enter Tryz.func151,Tryz.ntmps151;go_wp2
 go_loopw [3] (fun i wr=>∃k:Nat,(k≤n∨k=0)∧i=.int .i64 ((k:Int)+1)∧zex l (k+1)∧Below w.heap.size w wr) (fun i _=>n+1 - (intOf i).toNat)
 case atStart=>exact ⟨0,Or.inr rfl,rfl,fun i x y hi=>by omega,Below.refl _ _⟩
 case round =>
  obtain ⟨k,hk,rfl,hto,hb⟩:=hrel;by_cases hlt:k+1 < n
  ·obtain ⟨y,b,off,hy,rfl,d0,d1,d2⟩:=zaJ (h.below hb) k (by omega);obtain ⟨x,b',off',hx,e',c0,c1,c2⟩:=zaJ (h.below hb) (k+1) hlt;cases e';have vv:Below wr.heap.size wr wr.drew:=zw (Below.refl _ _);have HS:Hid (∀W,Below wr.heap.size wr W→(zcc W b (off+k*3) (.int .i64 y.i)∧zcc W b (off+k*3+1) (.int .i64 y.m)∧zcc W b (off+k*3+2) (.int .i64 y.b))∧(zcc W b (off+(k+1)*3) (.int .i64 x.i)∧zcc W b (off+(k+1)*3+1) (.int .i64 x.m)∧zcc W b (off+(k+1)*3+2) (.int .i64 x.b))):=hide (fun W hW=>⟨⟨zf d0 hW,zf d1 hW,zf d2 hW⟩,zf c0 hW,zf c1 hW,zf c2 hW⟩);have i0:IntKind.i64.wrap (k:Int)=(k:Int):=by rw [IntKind.wrap_i64]; omega
   have i1:(0:Int)≤(k:Int)∧(k:Int) < (n:Int):=by omega
   have i2:(0:Int)≤(k:Int)+1∧(k:Int)+1 < (n:Int):=by omega
   have i3:((k:Int)+1).toNat=k+1:=by omega
   by_cases hl:y.i < x.i
   ·have HO:=hide (zf1 hto hy hx hl);clear hto hy hx d0 d1 d2 c0 c1 c2;(go_wp2_with fail);refine wp_region_held_drew (S:=(fun W=>(zcc W b (off+k*3) (.int .i64 y.i)∧zcc W b (off+k*3+1) (.int .i64 y.m)∧zcc W b (off+k*3+2) (.int .i64 y.b))∧(zcc W b (off+(k+1)*3) (.int .i64 x.i)∧zcc W b (off+(k+1)*3+1) (.int .i64 x.m)∧zcc W b (off+(k+1)*3+2) (.int .i64 x.b)))) (by kernel_rfl) (HS.out _ vv) (fun hHeld => ?_);refine kK 0 q192 ?_;refine kK 1 q193 ?_;refine kK 2 q194 ?_;refine kK 3 q195 ?_;refine kK 4 q196 ?_;refine kK 5 q197 ?_;refine kK 7 q198 ?_;refine kK 8 q199 ?_;refine kK 9 q200 ?_;refine kK 10 q201 ?_;refine kK 11 q202 ?_;refine kR 6 q203 (fun K hK => ?_);go_simp;refine (zaV y _).mono ?_;rintro e wz ⟨rfl,hbz⟩;have vv:=zd vv hbz;(go_wp2_with fail);refine kO hK (HS.out _ vv) fun hHeld => ?_
    clear hK K;refine kR 12 q204 (fun K hK => ?_);go_simp;refine (zaV x _).mono ?_;rintro e wz ⟨rfl,hbz⟩;have vv:=zd vv hbz;(go_wp2_with fail);refine kO hK (HS.out _ vv) fun hHeld => ?_
    clear hK K;refine kV 13 q205 (.bool false) ?_;refine wpAnyH_done (by kernel_rfl) ?_ _;have HB1:=hide (zd hb vv);clear HS vv hb;go_wp2
    go_roundw
    case rel=>exact ⟨k+1,by omega,by go_num,HO.out,HB1.out⟩
    case measure=>simp [intOf]; omega
   ·have HF:=hide (ziZ hy hx hl);clear hto hy hx d0 d1 d2 c0 c1 c2;(go_wp2_with fail);refine wp_region_held_drew (S:=(fun W=>(zcc W b (off+k*3) (.int .i64 y.i)∧zcc W b (off+k*3+1) (.int .i64 y.m)∧zcc W b (off+k*3+2) (.int .i64 y.b))∧(zcc W b (off+(k+1)*3) (.int .i64 x.i)∧zcc W b (off+(k+1)*3+1) (.int .i64 x.m)∧zcc W b (off+(k+1)*3+2) (.int .i64 x.b)))) (by kernel_rfl) (HS.out _ vv) (fun hHeld => ?_);refine kK 0 q192 ?_;refine kK 1 q193 ?_;refine kK 2 q194 ?_;refine kK 3 q195 ?_;refine kK 4 q196 ?_;refine kK 5 q197 ?_;refine kK 7 q198 ?_;refine kK 8 q199 ?_;refine kK 9 q200 ?_;refine kK 10 q201 ?_;refine kK 11 q202 ?_;refine kR 6 q203 (fun K hK => ?_);go_simp;refine (zaV y _).mono ?_;rintro e wz ⟨rfl,hbz⟩;have vv:=zd vv hbz;(go_wp2_with fail);refine kO hK (HS.out _ vv) fun hHeld => ?_
    clear hK K;refine kR 12 q204 (fun K hK => ?_);go_simp;refine (zaV x _).mono ?_;rintro e wz ⟨rfl,hbz⟩;have vv:=zd vv hbz;(go_wp2_with fail);refine kO hK (HS.out _ vv) fun hHeld => ?_
    clear hK K;refine kV 13 q205 (.bool true) ?_;refine wpAnyH_done (by kernel_rfl) ?_ _;have HB1:=hide (zd hb vv);clear HS vv hb;go_wp2;go_ret;exact ⟨(by rw [← HR.out,HF.out]; rfl),HB1.out⟩
  ·have HF:Hid (vrises l=true):=hide ((zeU l).2 (fun i x y hi hx hy=>hto i x y (by have:=hsz.out; omega) hx hy));have HB:=hide hb;clear hto hb;go_wp2;go_ret;exact ⟨(by rw [← HR.out,HF.out]; rfl),HB.out⟩

theorem zcC (r:VR) (p:Nat) (w:World) (hr:r.Rng) (hp1:1≤p) (hp6:p≤6) :
  Calls Tryz.prog 152 #[.agg #[.int .i64 r.i,.int .i64 r.m,.int .i64 r.b],.int .i64 p] w fun e w'=>e=.returned (.bool (za3 (allOf p) r))∧Below w.heap.size w w':=by
 rw [← zhP r p hr hp6];generalize hw1:w.alloc (Obj.cells #[.int .i64 r.i,.int .i64 r.m,.int .i64 r.b] 82)=w1;have q:=zb hw1;have k0:=zk hw1;have HS:Hid (∀W,Below w1.heap.size w1 W→zcc W w.heap.size 0 (.int .i64 r.i)∧zcc W w.heap.size 1 (.int .i64 r.m)∧zcc W w.heap.size 2 (.int .i64 r.b)):=hide (fun W hW=>(zdh (ze k0 hW)).1);clear k0;have vv:Below w1.heap.size w1 w1.drew:=zw (Below.refl _ _);cases h1:in3 r.i 1 99
 ·have H1:=hide h1;clear h1;simp only [Bool.false_and];go_enter Tryz.func152,Tryz.ntmps152;(go_wp2_with fail);refine wp_region_held_drew (S:=(fun W=>zcc W w.heap.size 0 (.int .i64 r.i)∧zcc W w.heap.size 1 (.int .i64 r.m)∧zcc W w.heap.size 2 (.int .i64 r.b))) (by kernel_rfl) (HS.out _ vv) (fun hHeld => ?_);refine kK 0 q206 ?_;refine kK 1 q207 ?_;refine kR 2 q208 (fun K hK => ?_);go_simp;refine (zaO r.i 1 99 _).mono ?_;rintro e wz ⟨rfl,rfl⟩;rw [show (decide (1≤r.i) && decide (r.i≤99))=false from H1.out];(go_wp2_with fail);refine kO hK (HS.out _ vv) fun hHeld => ?_
  clear hK K;refine kK 3 q209 ?_;refine kN 4 q210 ?_;refine kN 5 q211 ?_;refine kN 6 q212 ?_;refine kN 7 q213 ?_;refine kN 8 q214 ?_;refine kN 9 q215 ?_;refine kK 10 q216 ?_;refine kK 11 q217 ?_;refine kN 12 q218 ?_;refine kN 13 q219 ?_;refine kN 14 q220 ?_;refine kN 15 q221 ?_;refine kN 16 q222 ?_;refine kN 17 q223 ?_;refine kK 18 q224 ?_;refine kK 19 q225 ?_;refine wpAnyH_done (by kernel_rfl) ?_ _;have HB:=hide (zd q vv);clear HS vv q;go_wp2;go_ret;exact ⟨rfl,HB.out⟩
 ·have H1:=hide h1;clear h1;cases h2:(bits .andNot .i64 r.m (allOf p) == 0)
  ·simp only [Bool.true_and,Bool.false_and];go_enter Tryz.func152,Tryz.ntmps152;(go_wp2_with fail);refine wp_region_held_drew (S:=(fun W=>zcc W w.heap.size 0 (.int .i64 r.i)∧zcc W w.heap.size 1 (.int .i64 r.m)∧zcc W w.heap.size 2 (.int .i64 r.b))) (by kernel_rfl) (HS.out _ vv) (fun hHeld => ?_);refine kK 0 q206 ?_;refine kK 1 q207 ?_;refine kR 2 q208 (fun K hK => ?_);go_simp;refine (zaO r.i 1 99 _).mono ?_;rintro e wz ⟨rfl,rfl⟩;rw [show (decide (1≤r.i) && decide (r.i≤99))=true from H1.out];(go_wp2_with fail);refine kO hK (HS.out _ vv) fun hHeld => ?_
   clear hK K;refine kK 3 q209 ?_;refine kK 4 q210 ?_;refine kK 5 q211 ?_;refine kK 6 q212 ?_;refine kR 7 q213 (fun K hK => ?_);go_simp;refine (zdm p hp1 hp6 _).mono ?_;rintro e wz ⟨rfl,rfl⟩;(go_wp2_with fail);refine kO hK (HS.out _ vv) fun hHeld => ?_
   clear hK K;refine kK 8 q214 ?_;refine kV 9 q215 (.bool false) ?_;refine kK 10 q216 ?_;refine kK 11 q217 ?_;refine kN 12 q218 ?_;refine kN 13 q219 ?_;refine kN 14 q220 ?_;refine kN 15 q221 ?_;refine kN 16 q222 ?_;refine kN 17 q223 ?_;refine kK 18 q224 ?_;refine kK 19 q225 ?_;refine wpAnyH_done (by kernel_rfl) ?_ _;have HB:=hide (zd q vv);clear HS vv q;go_wp2;go_ret;exact ⟨rfl,HB.out⟩
  ·simp only [Bool.true_and];generalize hd:(bits .andNot .i64 r.b r.m == 0)=d;go_enter Tryz.func152,Tryz.ntmps152;(go_wp2_with fail);refine wp_region_held_drew (S:=(fun W=>zcc W w.heap.size 0 (.int .i64 r.i)∧zcc W w.heap.size 1 (.int .i64 r.m)∧zcc W w.heap.size 2 (.int .i64 r.b))) (by kernel_rfl) (HS.out _ vv) (fun hHeld => ?_);refine kK 0 q206 ?_;refine kK 1 q207 ?_;refine kR 2 q208 (fun K hK => ?_);go_simp;refine (zaO r.i 1 99 _).mono ?_;rintro e wz ⟨rfl,rfl⟩;rw [show (decide (1≤r.i) && decide (r.i≤99))=true from H1.out];(go_wp2_with fail);refine kO hK (HS.out _ vv) fun hHeld => ?_
   clear hK K;refine kK 3 q209 ?_;refine kK 4 q210 ?_;refine kK 5 q211 ?_;refine kK 6 q212 ?_;refine kR 7 q213 (fun K hK => ?_);go_simp;refine (zdm p hp1 hp6 _).mono ?_;rintro e wz ⟨rfl,rfl⟩;(go_wp2_with fail);refine kO hK (HS.out _ vv) fun hHeld => ?_
   clear hK K;refine kK 8 q214 ?_;refine kV 9 q215 (.bool true) ?_;refine kK 10 q216 ?_;refine kK 11 q217 ?_;refine kK 12 q218 ?_;refine kK 13 q219 ?_;refine kK 14 q220 ?_;refine kK 15 q221 ?_;refine kK 16 q222 ?_;refine kV 17 q223 (.bool d) ?_;refine kK 18 q224 ?_;refine kK 19 q225 ?_;refine wpAnyH_done (by kernel_rfl) ?_ _;have HB:=hide (zd q vv);clear HS vv q;go_wp2;go_ret;exact ⟨rfl,HB.out⟩

theorem zi2 {v:VT} {ports:Int} (h:(decide (1≤ports) && decide (ports≤6))=false):zP v ports=false:=by
 unfold zP in3;rw [h]
 rfl
theorem ziH {v:VT} {ports:Int} (h:¬(v.own.length:Int)=ports):zP v ports=false:=by
 unfold zP;rw [show ((v.own.length:Int) == ports)=false by simpa using h]
 simp
theorem zhR {v:VT} {ports:Int} (h:¬v.rows.length≤6):zP v ports=false:=by
 unfold zP;rw [decide_eq_false h]
 simp
theorem zhS {v:VT} {ports:Int} (h:vrises v.rows=false):zP v ports=false:=by
 unfold zP;rw [h]
 simp
theorem ziI {v:VT} {p k:Nat} {x:VR} (hx:v.rows[k]?=some x) (h:za3 (allOf p) x=false):zP v p=false:=by
 have:v.rows.all (za3 (allOf p))=false:=by
  rw [List.all_eq_false];exact ⟨x,List.mem_of_getElem? hx,by rw [h]; simp⟩
 unfold zP;rw [Int.toNat_natCast,this]
 simp

def zgw (A:Int) (l:List VR) (k:Nat):Prop:=∀(i:Nat) (x:VR),i < k→l[i]?=some x→za3 A x=true

theorem zf5 {A:Int} {l:List VR} {k:Nat} {x:VR} (h:zgw A l k) (hx:l[k]?=some x) (h1:za3 A x=true):zgw A l (k+1):=by
 intro i z hi hz;by_cases e:i=k
 ·subst e;rw [hx] at hz;cases hz;exact h1
 ·exact h i z (by omega) hz

theorem ziF {A:Int} {l:List VR} (h:zgw A l l.length) (hr:vrises l=true):vokTo A l l.length:=by
 refine (zc8 A l).1 ⟨List.all_eq_true.2 fun x hx => ?_,hr⟩;obtain ⟨i,hi⟩:=List.mem_iff_getElem?.1 hx;exact h i x (List.getElem?_eq_some_iff.1 hi).1 hi

end Go.Proofs.YtljbdmlgfggadaaGreat
