/-
  Whether a table is right, as the specification has it.
-/
import Derived.Test.YtkaefmfopejbaaaGreatPVKW
import Derived.Test.YtkaefmfopejbaaaGreatPVK02
namespace Go.Proofs.YtkaefmfopejbaaaGreat
set_option maxRecDepth 100000
set_option maxHeartbeats 16000000
open Go.RowKit

abbrev q1:Oper:=⟨some 41,.fieldAddr 167 (.tmp 7) 0,0,"l09_vlan.go:33",#[],none⟩
abbrev q2:Oper:=⟨some 42,.load 3 (.tmp 41),3,"l09_vlan.go:33",#[⟨0,.data⟩],none⟩
abbrev q3:Oper:=⟨some 43,.call ⟨.value (.func 54),#[.tmp 42,.const (.int .i64 1),.const (.int .i64 99)],#[3,3,3]⟩,4,"l09_vlan.go:33",#[⟨1,.data⟩],none⟩
abbrev q4:Oper:=⟨some 44,.unOp .not 4 (.tmp 43),4,"l09_vlan.go:33",#[⟨2,.data⟩],none⟩
abbrev q5:Oper:=⟨some 45,.move (.tmp 44),4,"l09_vlan.go:33",#[⟨3,.data⟩,⟨2,.chain⟩],none⟩
abbrev q6:Oper:=⟨some 46,.fieldAddr 167 (.tmp 7) 1,0,"l09_vlan.go:33",#[⟨4,.guard⟩],some (4,false)⟩
abbrev q7:Oper:=⟨some 47,.load 3 (.tmp 46),3,"l09_vlan.go:33",#[⟨5,.data⟩,⟨4,.guard⟩],some (4,false)⟩
abbrev q8:Oper:=⟨some 48,.move (.tmp 5),3,"l09_vlan.go:33",#[⟨4,.guard⟩],some (4,false)⟩
abbrev q9:Oper:=⟨some 49,.call ⟨.value (.func 54),#[.tmp 47,.const (.int .i64 0),.tmp 48],#[3,3,3]⟩,4,"l09_vlan.go:33",#[⟨6,.data⟩,⟨7,.data⟩,⟨4,.chain⟩,⟨4,.guard⟩],some (4,false)⟩
abbrev q10:Oper:=⟨some 50,.unOp .not 4 (.tmp 49),4,"l09_vlan.go:33",#[⟨8,.data⟩,⟨4,.guard⟩],some (4,false)⟩
abbrev q11:Oper:=⟨some 51,.pick (.tmp 45) (.const (.bool true)) (.tmp 50),4,"l09_vlan.go:33",#[⟨4,.data⟩,⟨9,.data⟩],none⟩
abbrev q12:Oper:=⟨some 52,.move (.tmp 51),4,"l09_vlan.go:33",#[⟨10,.data⟩,⟨8,.chain⟩],none⟩
abbrev q13:Oper:=⟨some 53,.fieldAddr 167 (.tmp 7) 2,0,"l09_vlan.go:33",#[⟨11,.guard⟩],some (11,false)⟩
abbrev q14:Oper:=⟨some 54,.load 3 (.tmp 53),3,"l09_vlan.go:33",#[⟨12,.data⟩,⟨11,.guard⟩],some (11,false)⟩
abbrev q15:Oper:=⟨some 55,.move (.tmp 5),3,"l09_vlan.go:33",#[⟨11,.guard⟩],some (11,false)⟩
abbrev q16:Oper:=⟨some 56,.call ⟨.value (.func 54),#[.tmp 54,.const (.int .i64 0),.tmp 55],#[3,3,3]⟩,4,"l09_vlan.go:33",#[⟨13,.data⟩,⟨14,.data⟩,⟨11,.chain⟩,⟨11,.guard⟩],some (11,false)⟩
abbrev q17:Oper:=⟨some 57,.unOp .not 4 (.tmp 56),4,"l09_vlan.go:33",#[⟨15,.data⟩,⟨11,.guard⟩],some (11,false)⟩
abbrev q18:Oper:=⟨some 58,.pick (.tmp 52) (.const (.bool true)) (.tmp 57),4,"l09_vlan.go:33",#[⟨11,.data⟩,⟨16,.data⟩],none⟩
abbrev q19:Oper:=⟨some 59,.move (.tmp 58),4,"l09_vlan.go:33",#[⟨17,.data⟩,⟨15,.chain⟩],none⟩
abbrev q20:Oper:=⟨some 60,.fieldAddr 167 (.tmp 7) 2,0,"l09_vlan.go:33",#[⟨18,.guard⟩],some (18,false)⟩
abbrev q21:Oper:=⟨some 61,.load 3 (.tmp 60),3,"l09_vlan.go:33",#[⟨19,.data⟩,⟨18,.guard⟩],some (18,false)⟩
abbrev q22:Oper:=⟨some 62,.fieldAddr 167 (.tmp 7) 1,0,"l09_vlan.go:33",#[⟨18,.guard⟩],some (18,false)⟩
abbrev q23:Oper:=⟨some 63,.load 3 (.tmp 62),3,"l09_vlan.go:33",#[⟨21,.data⟩,⟨18,.guard⟩],some (18,false)⟩
abbrev q24:Oper:=⟨some 64,.binOp .and 3 (.tmp 61) (.tmp 63) 3,3,"l09_vlan.go:33",#[⟨20,.data⟩,⟨22,.data⟩,⟨18,.guard⟩],some (18,false)⟩
abbrev q25:Oper:=⟨some 65,.fieldAddr 167 (.tmp 7) 2,0,"l09_vlan.go:33",#[⟨18,.guard⟩],some (18,false)⟩
abbrev q26:Oper:=⟨some 66,.load 3 (.tmp 65),3,"l09_vlan.go:33",#[⟨24,.data⟩,⟨18,.guard⟩],some (18,false)⟩
abbrev q27:Oper:=⟨some 67,.binOp .neq 3 (.tmp 64) (.tmp 66) 3,4,"l09_vlan.go:33",#[⟨23,.data⟩,⟨25,.data⟩,⟨18,.guard⟩],some (18,false)⟩
abbrev q28:Oper:=⟨some 68,.pick (.tmp 59) (.const (.bool true)) (.tmp 67),4,"l09_vlan.go:33",#[⟨18,.data⟩,⟨26,.data⟩],none⟩
abbrev q29:Oper:=⟨some 69,.move (.tmp 68),4,"l09_vlan.go:33",#[⟨27,.data⟩,⟨18,.chain⟩],none⟩
abbrev q30:Oper:=⟨some 70,.move (.tmp 6),3,"l09_vlan.go:33",#[⟨28,.guard⟩],some (28,false)⟩
abbrev q31:Oper:=⟨some 71,.binOp .gtr 3 (.tmp 70) (.const (.int .i64 0)) 3,4,"l09_vlan.go:33",#[⟨29,.data⟩,⟨28,.guard⟩],some (28,false)⟩
abbrev q32:Oper:=⟨some 72,.move (.tmp 71),4,"l09_vlan.go:33",#[⟨30,.data⟩,⟨28,.chain⟩,⟨28,.guard⟩],some (28,false)⟩
abbrev q33:Oper:=⟨some 73,.fieldAddr 42 (.tmp 2) 0,0,"l09_vlan.go:33",#[⟨31,.guard⟩],some (31,true)⟩
abbrev q34:Oper:=⟨some 74,.load 40 (.tmp 73),40,"l09_vlan.go:33",#[⟨32,.data⟩,⟨31,.guard⟩],some (31,true)⟩
abbrev q35:Oper:=⟨some 75,.move (.tmp 6),3,"l09_vlan.go:33",#[⟨31,.guard⟩],some (31,true)⟩
abbrev q36:Oper:=⟨some 76,.binOp .sub 3 (.tmp 75) (.const (.int .i64 1)) 3,3,"l09_vlan.go:33",#[⟨34,.data⟩,⟨31,.guard⟩],some (31,true)⟩
abbrev q37:Oper:=⟨some 77,.indexAddr 40 (.tmp 74) (.tmp 76),0,"l09_vlan.go:33",#[⟨33,.data⟩,⟨35,.data⟩,⟨31,.guard⟩],some (31,true)⟩
abbrev q38:Oper:=⟨some 78,.fieldAddr 167 (.tmp 77) 0,0,"l09_vlan.go:33",#[⟨36,.data⟩,⟨31,.guard⟩],some (31,true)⟩
abbrev q39:Oper:=⟨some 79,.load 3 (.tmp 78),3,"l09_vlan.go:33",#[⟨37,.data⟩,⟨31,.guard⟩],some (31,true)⟩
abbrev q40:Oper:=⟨some 80,.fieldAddr 167 (.tmp 7) 0,0,"l09_vlan.go:33",#[⟨31,.guard⟩],some (31,true)⟩
abbrev q41:Oper:=⟨some 81,.load 3 (.tmp 80),3,"l09_vlan.go:33",#[⟨39,.data⟩,⟨31,.guard⟩],some (31,true)⟩
abbrev q42:Oper:=⟨some 82,.binOp .geq 3 (.tmp 79) (.tmp 81) 3,4,"l09_vlan.go:33",#[⟨38,.data⟩,⟨40,.data⟩,⟨31,.guard⟩],some (31,true)⟩
abbrev q43:Oper:=⟨some 83,.pick (.tmp 72) (.tmp 82) (.const (.bool false)),4,"l09_vlan.go:33",#[⟨31,.data⟩,⟨41,.data⟩,⟨28,.guard⟩],some (28,false)⟩
abbrev q44:Oper:=⟨some 84,.pick (.tmp 69) (.const (.bool true)) (.tmp 83),4,"l09_vlan.go:33",#[⟨28,.data⟩,⟨42,.data⟩],none⟩
abbrev q45:Oper:=⟨some 92,.load 42 (.tmp 2),42,"l09_vlan.go:38",#[],none⟩
abbrev q46:Oper:=⟨some 93,.fieldAddr 42 (.tmp 2) 1,0,"l09_vlan.go:38",#[],none⟩
abbrev q47:Oper:=⟨some 94,.load 35 (.tmp 93),35,"l09_vlan.go:38",#[⟨1,.data⟩],none⟩
abbrev q48:Oper:=⟨some 95,.move (.tmp 8),3,"l09_vlan.go:38",#[],none⟩
abbrev q49:Oper:=⟨some 96,.indexAddr 35 (.tmp 94) (.tmp 95),0,"l09_vlan.go:38",#[⟨2,.data⟩,⟨3,.data⟩],none⟩
abbrev q50:Oper:=⟨some 97,.load 3 (.tmp 96),3,"l09_vlan.go:38",#[⟨4,.data⟩],none⟩
abbrev q51:Oper:=⟨some 98,.call ⟨.value (.func 166),#[.tmp 92,.tmp 97],#[42,3]⟩,3,"l09_vlan.go:38",#[⟨0,.data⟩,⟨5,.data⟩],none⟩
abbrev q52:Oper:=⟨some 99,.binOp .lss 3 (.tmp 98) (.const (.int .i64 0)) 3,4,"l09_vlan.go:38",#[⟨6,.data⟩],none⟩

theorem zhI (p:Nat) (h1:1≤(p:Int)) (h2:(p:Int)≤6):wrap64 (wrap64 (2 ^ p) - 1)=allOf p:=by
 have h:p=1∨p=2∨p=3∨p=4∨p=5∨p=6:=by omega
 rcases h with rfl | rfl | rfl | rfl | rfl | rfl <;> simp [wrap64,allOf]

def vokTo (A:Int) (l:List VR) (k:Nat):Prop:=∀(i:Nat) (x:VR),i < k→l[i]? = some x→zb0 A x=true∧∀y:VR,0 < i→l[i - 1]? = some y→y.i < x.i

theorem zeb {A:Int} {l:List VR} {k:Nat} {x:VR} (h:vokTo A l k) (hx:l[k]? = some x) (h1:zb0 A x=true) (h2:∀y:VR,0 < k→l[k - 1]? = some y→y.i < x.i):vokTo A l (k+1):=by
 intro i z hi hz;by_cases e:i=k
 ·subst e;rw [hx] at hz;cases hz;exact ⟨h1,h2⟩
 ·exact h i z (by omega) hz

theorem zdG (A:Int):∀(l:List VR),(l.all (zb0 A)=true∧vrises l=true)↔vokTo A l l.length
 | []=>by simp [vrises,vokTo]
 | [e]=>by
  simp only [vrises,vokTo,List.length_singleton,List.all_cons,List.all_nil,Bool.and_true,and_true]
  constructor
  ·intro h i x hi hx;have h0:i=0:=by omega
   subst h0
   simp at hx
   subst hx;exact ⟨h,fun y hy=>by omega⟩
  ·intro h;exact (h 0 e (by omega) rfl).1
 | e::f::r=>by
  have ih:=zdG A (f::r);rw [List.all_cons,show vrises (e::f::r)=(decide (e.i < f.i) && vrises (f::r)) from rfl];simp only [Bool.and_eq_true,decide_eq_true_eq]
  constructor
  ·rintro ⟨⟨h1,h3⟩,h2,h4⟩ i x hi hx;have h3:=ih.1 ⟨h3,h4⟩
   match i,hx with
   | 0,hx =>
    simp at hx
    subst hx;exact ⟨h1,fun y hy=>by omega⟩
   | 1,hx =>
    simp at hx
    subst hx;refine ⟨(h3 0 f (by simp) rfl).1,fun y _ hy => ?_⟩
    simp at hy
    subst hy;exact h2
   | i+2,hx =>
    obtain ⟨a1,a2⟩:=h3 (i+1) x (by simp at hi ⊢; omega) (by simpa using hx);exact ⟨a1,fun y _ hy=>a2 y (by omega) (by simpa using hy)⟩
  ·intro h;have h':vokTo A (f::r) (f::r).length:=fun i x hi hx=>by
    obtain ⟨a1,a2⟩:=h (i+1) x (by simp at hi ⊢; omega) (by simpa using hx);refine ⟨a1,fun y hy hz=>a2 y (by omega) ?_⟩;obtain ⟨j,rfl⟩:∃j,i=j+1:=⟨i - 1,by omega⟩
    simpa using hz
   have:=ih.2 h'
   exact ⟨⟨(h 0 e (by simp) rfl).1,this.1⟩,(h 1 f (by simp) rfl).2 e (by omega) rfl,this.2⟩

theorem zdH {v:VT} {p:Nat} (h:¬vokTo (allOf p) v.rows v.rows.length):zaK v p=false:=by
 have:=(not_congr (zdG (allOf p) v.rows)).2 h
 unfold zaK;rw [Int.toNat_natCast];cases ha:v.rows.all (zb0 (allOf p)) <;> cases hr:vrises v.rows <;> simp [ha,hr] at this ⊢

theorem zis {v:VT} {p:Nat} {i:Int} (hi:i∈v.own) (h:zbs v.rows i=none):zaK v p=false:=by
 have:v.own.all (fun p=>(zbs v.rows p).isSome)=false:=by
  rw [List.all_eq_false];exact ⟨i,hi,by rw [h]; simp⟩
 unfold zaK;rw [this]
 simp

theorem zit {v:VT} {p:Nat} (h1:1≤(p:Int)) (h2:(p:Int)≤6) (hp:v.own.length=p) (hn:v.rows.length≤6) (h:vokTo (allOf p) v.rows v.rows.length) (ho:∀i∈v.own,zbs v.rows i≠none):zaK v p=true:=by
 obtain ⟨a1,a2⟩:=(zdG (allOf p) v.rows).2 h;have a3:v.own.all (fun p=>(zbs v.rows p).isSome)=true:=by
  rw [List.all_eq_true];intro i hi;cases hr:zbs v.rows i with
  | none=>exact absurd hr (ho i hi)
  | some k=>rfl
 unfold zaK in3;rw [Int.toNat_natCast,a1,a2,a3,hp]
 simp [h1,h2,hn]

def ownTo (v:VT) (k:Nat):Prop:=∀(i:Nat) (x:Int),i < k→v.own[i]? = some x→zbs v.rows x≠none

theorem zgI {v:VT} {k:Nat} {x:Int} (h:ownTo v k) (hx:v.own[k]? = some x) (hr:zbs v.rows x≠none):ownTo v (k+1):=by
 intro i z hi hz;by_cases e:i=k
 ·subst e;rw [hx] at hz;cases hz;exact hr
 ·exact h i z (by omega) hz

theorem zho {v:VT} {k:Nat} (h:ownTo v k) (hk:v.own.length≤k) (i:Int) (hi:i∈v.own):zbs v.rows i≠none:=by
 obtain ⟨j,hj⟩:=List.mem_iff_getElem?.1 hi;exact h j i (by have:=(List.getElem?_eq_some_iff.1 hj).1; omega) hj

theorem zg9 {w:World} {ao:Option Addr} {len cap:Nat} {zs:List Int} (h:IRow w ao len cap zs) (i:Nat) (hi:i < len):∃(x:Int) (b off:Nat),zs[i]? = some x∧ao=some ⟨b,off,none⟩∧w.cell? ⟨b,off+i,none⟩=some (.int .i64 x):=by
 have hl:=h.size;rcases h.cell with h0 | ⟨b,off,ha,hc⟩
 ·omega
 ·refine ⟨zs[i]'(by omega),b,off,List.getElem?_eq_getElem (by omega),ha, ?_⟩;rw [hc i hi,List.getD_eq_getElem?_getD,List.getElem?_eq_getElem (by omega)]
  rfl

theorem zat {w W:World} {g:Addr} {u:Value} (h:w.cell? g=some u) (hb:Below w.heap.size w W):W.cell? g=some u:=(hb.cell (zp h)).trans h

theorem zaA {w w1 wr:World} {s t:Value} {T:TypeId} (hw1:w.alloc (Obj.cells #[s,t] T)=w1) (hb:Below w1.heap.size w1 wr):wr.cell? ⟨w.heap.size,0,none⟩=some s∧wr.cell? ⟨w.heap.size,1,none⟩=some t:=by
 subst hw1;have hk:=zcu hb
 constructor <;> simp [World.cell?,hk]

def vrowB (x:VR) (T:TypeId):Obj:=.cells #[.int .i64 x.i,.int .i64 x.m,.int .i64 x.b] T

theorem zN {wr W:World} {x:VR} {T:TypeId} (hb:Below (wr.alloc (vrowB x T)).heap.size (wr.alloc (vrowB x T)) W) :
  (W.cell? ⟨wr.heap.size,0,none⟩=some (.int .i64 x.i)∧W.cell? ⟨wr.heap.size,1,none⟩=some (.int .i64 x.m)∧W.cell? ⟨wr.heap.size,2,none⟩=some (.int .i64 x.b))∧∀(g:Addr) (u:Value),wr.cell? g=some u→W.cell? g=some u:=by
 have hk:=zcu hb;unfold vrowB at hk;refine ⟨⟨?_, ?_, ?_⟩,fun g u hg => ?_⟩
 ·simp [World.cell?,hk]
 ·simp [World.cell?,hk]
 ·simp [World.cell?,hk]
 have h1:=((zn wr (vrowB x T)).cell (zp hg)).trans hg;exact (hb.cell (zp h1)).trans h1

theorem zbj (a:Option Addr) (n c:Nat) (o:Option Addr) (p q:Nat) (v:VT) (ports:Int) (w:World) (h:VTab w a n c o p q v) :
  Calls Tryz.prog 139 #[.agg #[.slice a n c,.slice o p q],.int .i64 ports] w fun r w'=>r=.returned (.bool (zaK v ports))∧Below w.heap.size w w':=by
 have hle:=h.rows.le;have htop:=h.rows.top;have hle2:=h.own.le;have htop2:=h.own.top;unfold maxLen at htop htop2;have hsz:=h.rows.size;have hsz2:=h.own.size;have hW:Below w.heap.size w (w.alloc (Obj.cells #[Value.slice a n c,Value.slice o p q] 42)):=zn _ _;have h:=h.below hW;cases t1:(decide (1≤ports) && decide (ports≤6))
 ·have HN:Hid (zaK v ports=false):=hide (by unfold zaK in3; rw [t1]; simp);have T1:=hide t1;clear t1;go_enter Tryz.func139,Tryz.ntmps139;go_wp2_with (refine (zf ports 1 6 _).mono ?_; rintro r w1 ⟨rfl,rfl⟩; rw [T1.out])
  go_ret;exact ⟨zai HN.out.symm,hW⟩
 ·have T1:=hide t1
  simp at t1
  by_cases t2:(p:Int)=ports
  ·by_cases t3:n≤6
   ·subst t2;go_enter Tryz.func139,Tryz.ntmps139;go_wp2_with (refine (zf (p:Int) 1 6 _).mono ?_; rintro r w1 ⟨rfl,rfl⟩; rw [T1.out])
    rw [zhI p t1.1 t1.2];generalize hA:allOf p=A;generalize hw1:w.alloc (Obj.cells #[Value.slice a n c,Value.slice o p q] 42)=w1;rw [hw1] at h hW
    go_loopw [6] (fun i wr=>∃k:Nat,k≤n∧i=.int .i64 k∧vokTo A v.rows k∧Below w1.heap.size w1 wr) (fun i _=>n - (intOf i).toNat)
    case atStart=>exact ⟨0,Nat.zero_le _,rfl,fun i x hi=>by omega,Below.refl _ _⟩
    case round =>
     obtain ⟨k,hk,rfl,hok,hb⟩:=hrel;have b1:=zaA hw1 hb;by_cases hlt:k < n
     ·obtain ⟨x,b,off,hx,rfl,c0,c1,c2⟩:=zfS (h.rows.below hb) k hlt;have hrb:=h.rows.below hb;have HB:=hide hb;clear hb;(go_wp2_with fail);have vv:Below (wr.alloc (vrowB x 167)).heap.size (wr.alloc (vrowB x 167)) (wr.alloc (vrowB x 167)).drew:=zG (Below.refl _ _);cases t4:(decide (1≤x.i) && decide (x.i≤99))
      ·have X1:=hide t4;have HN:=hide (zdH (v:=v) (p:=p) (fun hall=>by have:=(hall k x (by omega) hx).1; unfold zb0 in3 at this; rw [hA] at this; rw [t4] at this; simp at this));clear t4 hok;refine wp_region_held_drew (S:=(fun W=>(zcc W wr.heap.size 0 (.int .i64 x.i)∧zcc W wr.heap.size 1 (.int .i64 x.m)∧zcc W wr.heap.size 2 (.int .i64 x.b)))) (by kernel_rfl) ((zN vv).1) (fun hHeld => ?_);refine kK 0 q1 ?_;refine kK 1 q2 ?_;refine kR 2 q3 (fun K hK => ?_);go_simp;refine (zf x.i 1 99 _).mono ?_;rintro r wx ⟨rfl,rfl⟩;rw [X1.out];(go_wp2_with fail);refine kO hK ((zN vv).1) fun hHeld => ?_
       clear hK K;refine kK 3 q4 ?_;refine kK 4 q5 ?_;refine kN 5 q6 ?_;refine kN 6 q7 ?_;refine kN 7 q8 ?_;refine kN 8 q9 ?_;refine kN 9 q10 ?_;refine kK 10 q11 ?_;refine kK 11 q12 ?_;refine kN 12 q13 ?_;refine kN 13 q14 ?_;refine kN 14 q15 ?_;refine kN 15 q16 ?_;refine kN 16 q17 ?_;refine kK 17 q18 ?_;refine kK 18 q19 ?_;refine kN 19 q20 ?_;refine kN 20 q21 ?_;refine kN 21 q22 ?_;refine kN 22 q23 ?_;refine kN 23 q24 ?_;refine kN 24 q25 ?_;refine kN 25 q26 ?_;refine kN 26 q27 ?_;refine kK 27 q28 ?_;refine kK 28 q29 ?_;refine kN 29 q30 ?_;refine kN 30 q31 ?_;refine kN 31 q32 ?_;refine kN 32 q33 ?_;refine kN 33 q34 ?_;refine kN 34 q35 ?_;refine kN 35 q36 ?_;refine kN 36 q37 ?_;refine kN 37 q38 ?_;refine kN 38 q39 ?_;refine kN 39 q40 ?_;refine kN 40 q41 ?_;refine kN 41 q42 ?_;refine kN 42 q43 ?_;refine kK 43 q44 ?_;refine wpAnyH_done (by kernel_rfl) ?_ _;go_wp2;go_ret;exact ⟨zai HN.out.symm,zc hW (zc HB.out (zc (zn _ _) vv))⟩
      cases t5:(decide (0≤x.m) && decide (x.m≤A))
      ·have X1:=hide t4;have X2:=hide t5;have HN:=hide (zdH (v:=v) (p:=p) (fun hall=>by have:=(hall k x (by omega) hx).1; unfold zb0 in3 at this; rw [hA] at this; rw [t5] at this; simp at this));clear t4 t5 hok;refine wp_region_held_drew (S:=(fun W=>(zcc W wr.heap.size 0 (.int .i64 x.i)∧zcc W wr.heap.size 1 (.int .i64 x.m)∧zcc W wr.heap.size 2 (.int .i64 x.b)))) (by kernel_rfl) ((zN vv).1) (fun hHeld => ?_);refine kK 0 q1 ?_;refine kK 1 q2 ?_;refine kR 2 q3 (fun K hK => ?_);go_simp;refine (zf x.i 1 99 _).mono ?_;rintro r wx ⟨rfl,rfl⟩;rw [X1.out];(go_wp2_with fail);refine kO hK ((zN vv).1) fun hHeld => ?_
       clear hK K;refine kK 3 q4 ?_;refine kK 4 q5 ?_;refine kK 5 q6 ?_;refine kK 6 q7 ?_;refine kK 7 q8 ?_;refine kR 8 q9 (fun K hK => ?_);go_simp;refine (zf x.m 0 A _).mono ?_;rintro r wx ⟨rfl,rfl⟩;rw [X2.out];(go_wp2_with fail);refine kO hK ((zN vv).1) fun hHeld => ?_
       clear hK K;refine kK 9 q10 ?_;refine kK 10 q11 ?_;refine kK 11 q12 ?_;refine kN 12 q13 ?_;refine kN 13 q14 ?_;refine kN 14 q15 ?_;refine kN 15 q16 ?_;refine kN 16 q17 ?_;refine kK 17 q18 ?_;refine kK 18 q19 ?_;refine kN 19 q20 ?_;refine kN 20 q21 ?_;refine kN 21 q22 ?_;refine kN 22 q23 ?_;refine kN 23 q24 ?_;refine kN 24 q25 ?_;refine kN 25 q26 ?_;refine kN 26 q27 ?_;refine kK 27 q28 ?_;refine kK 28 q29 ?_;refine kN 29 q30 ?_;refine kN 30 q31 ?_;refine kN 31 q32 ?_;refine kN 32 q33 ?_;refine kN 33 q34 ?_;refine kN 34 q35 ?_;refine kN 35 q36 ?_;refine kN 36 q37 ?_;refine kN 37 q38 ?_;refine kN 38 q39 ?_;refine kN 39 q40 ?_;refine kN 40 q41 ?_;refine kN 41 q42 ?_;refine kN 42 q43 ?_;refine kK 43 q44 ?_;refine wpAnyH_done (by kernel_rfl) ?_ _;go_wp2;go_ret;exact ⟨zai HN.out.symm,zc hW (zc HB.out (zc (zn _ _) vv))⟩
      cases t6:(decide (0≤x.b) && decide (x.b≤A))
      ·have X1:=hide t4;have X2:=hide t5;have X3:=hide t6;have HN:=hide (zdH (v:=v) (p:=p) (fun hall=>by have:=(hall k x (by omega) hx).1; unfold zb0 in3 at this; rw [hA] at this; rw [t6] at this; simp at this));clear t4 t5 t6 hok;refine wp_region_held_drew (S:=(fun W=>(zcc W wr.heap.size 0 (.int .i64 x.i)∧zcc W wr.heap.size 1 (.int .i64 x.m)∧zcc W wr.heap.size 2 (.int .i64 x.b)))) (by kernel_rfl) ((zN vv).1) (fun hHeld => ?_);refine kK 0 q1 ?_;refine kK 1 q2 ?_;refine kR 2 q3 (fun K hK => ?_);go_simp;refine (zf x.i 1 99 _).mono ?_;rintro r wx ⟨rfl,rfl⟩;rw [X1.out];(go_wp2_with fail);refine kO hK ((zN vv).1) fun hHeld => ?_
       clear hK K;refine kK 3 q4 ?_;refine kK 4 q5 ?_;refine kK 5 q6 ?_;refine kK 6 q7 ?_;refine kK 7 q8 ?_;refine kR 8 q9 (fun K hK => ?_);go_simp;refine (zf x.m 0 A _).mono ?_;rintro r wx ⟨rfl,rfl⟩;rw [X2.out];(go_wp2_with fail);refine kO hK ((zN vv).1) fun hHeld => ?_
       clear hK K;refine kK 9 q10 ?_;refine kK 10 q11 ?_;refine kK 11 q12 ?_;refine kK 12 q13 ?_;refine kK 13 q14 ?_;refine kK 14 q15 ?_;refine kR 15 q16 (fun K hK => ?_);go_simp;refine (zf x.b 0 A _).mono ?_;rintro r wx ⟨rfl,rfl⟩;rw [X3.out];(go_wp2_with fail);refine kO hK ((zN vv).1) fun hHeld => ?_
       clear hK K;refine kK 16 q17 ?_;refine kK 17 q18 ?_;refine kK 18 q19 ?_;refine kN 19 q20 ?_;refine kN 20 q21 ?_;refine kN 21 q22 ?_;refine kN 22 q23 ?_;refine kN 23 q24 ?_;refine kN 24 q25 ?_;refine kN 25 q26 ?_;refine kN 26 q27 ?_;refine kK 27 q28 ?_;refine kK 28 q29 ?_;refine kN 29 q30 ?_;refine kN 30 q31 ?_;refine kN 31 q32 ?_;refine kN 32 q33 ?_;refine kN 33 q34 ?_;refine kN 34 q35 ?_;refine kN 35 q36 ?_;refine kN 36 q37 ?_;refine kN 37 q38 ?_;refine kN 38 q39 ?_;refine kN 39 q40 ?_;refine kN 40 q41 ?_;refine kN 41 q42 ?_;refine kN 42 q43 ?_;refine kK 43 q44 ?_;refine wpAnyH_done (by kernel_rfl) ?_ _;go_wp2;go_ret;exact ⟨zai HN.out.symm,zc hW (zc HB.out (zc (zn _ _) vv))⟩
      cases t7:(bits .and .i64 x.b x.m != x.b);rotate_left
      ·have X1:=hide t4;have X2:=hide t5;have X3:=hide t6;have HN:=hide (zdH (v:=v) (p:=p) (fun hall=>by have:=(hall k x (by omega) hx).1; unfold zb0 in3 at this; rw [hA] at this; simp only [Bool.and_eq_true] at this; have h7:=this.2; simp at h7 t7; exact t7 h7));clear t4 t5 t6 hok;refine wp_region_held_drew (S:=(fun W=>(zcc W wr.heap.size 0 (.int .i64 x.i)∧zcc W wr.heap.size 1 (.int .i64 x.m)∧zcc W wr.heap.size 2 (.int .i64 x.b)))) (by kernel_rfl) ((zN vv).1) (fun hHeld => ?_);refine kK 0 q1 ?_;refine kK 1 q2 ?_;refine kR 2 q3 (fun K hK => ?_);go_simp;refine (zf x.i 1 99 _).mono ?_;rintro r wx ⟨rfl,rfl⟩;rw [X1.out];(go_wp2_with fail);refine kO hK ((zN vv).1) fun hHeld => ?_
       clear hK K;refine kK 3 q4 ?_;refine kK 4 q5 ?_;refine kK 5 q6 ?_;refine kK 6 q7 ?_;refine kK 7 q8 ?_;refine kR 8 q9 (fun K hK => ?_);go_simp;refine (zf x.m 0 A _).mono ?_;rintro r wx ⟨rfl,rfl⟩;rw [X2.out];(go_wp2_with fail);refine kO hK ((zN vv).1) fun hHeld => ?_
       clear hK K;refine kK 9 q10 ?_;refine kK 10 q11 ?_;refine kK 11 q12 ?_;refine kK 12 q13 ?_;refine kK 13 q14 ?_;refine kK 14 q15 ?_;refine kR 15 q16 (fun K hK => ?_);go_simp;refine (zf x.b 0 A _).mono ?_;rintro r wx ⟨rfl,rfl⟩;rw [X3.out];(go_wp2_with fail);refine kO hK ((zN vv).1) fun hHeld => ?_
       clear hK K;refine kK 16 q17 ?_;refine kK 17 q18 ?_;refine kK 18 q19 ?_;refine kK 19 q20 ?_;refine kK 20 q21 ?_;refine kK 21 q22 ?_;refine kK 22 q23 ?_;refine kK 23 q24 ?_;refine kK 24 q25 ?_;refine kK 25 q26 ?_;refine kK 26 q27 ?_;refine kK 27 q28 ?_;refine kK 28 q29 ?_;refine kN 29 q30 ?_;refine kN 30 q31 ?_;refine kN 31 q32 ?_;refine kN 32 q33 ?_;refine kN 33 q34 ?_;refine kN 34 q35 ?_;refine kN 35 q36 ?_;refine kN 36 q37 ?_;refine kN 37 q38 ?_;refine kN 38 q39 ?_;refine kN 39 q40 ?_;refine kN 40 q41 ?_;refine kN 41 q42 ?_;refine kN 42 q43 ?_;refine kK 43 q44 ?_;refine wpAnyH_done (by kernel_rfl) ?_ _;go_wp2;go_ret;exact ⟨zai HN.out.symm,zc hW (zc HB.out (zc (zn _ _) vv))⟩
      have hrow:zb0 A x=true:=by
       unfold zb0 in3;rw [t4,t5,t6]
       simp at t7 ⊢
       exact t7
      have X1:=hide t4;have X2:=hide t5;have X3:=hide t6;clear t4 t5 t6;by_cases hk0:k=0
      ·have HO:=hide (zeb hok hx hrow (fun y hy=>by omega));have hgt:¬0 < k:=by omega
       clear hok hk0 hrow;refine wp_region_held_drew (S:=(fun W=>(zcc W wr.heap.size 0 (.int .i64 x.i)∧zcc W wr.heap.size 1 (.int .i64 x.m)∧zcc W wr.heap.size 2 (.int .i64 x.b)))) (by kernel_rfl) ((zN vv).1) (fun hHeld => ?_);refine kK 0 q1 ?_;refine kK 1 q2 ?_;refine kR 2 q3 (fun K hK => ?_);go_simp;refine (zf x.i 1 99 _).mono ?_;rintro r wx ⟨rfl,rfl⟩;rw [X1.out];(go_wp2_with fail);refine kO hK ((zN vv).1) fun hHeld => ?_
       clear hK K;refine kK 3 q4 ?_;refine kK 4 q5 ?_;refine kK 5 q6 ?_;refine kK 6 q7 ?_;refine kK 7 q8 ?_;refine kR 8 q9 (fun K hK => ?_);go_simp;refine (zf x.m 0 A _).mono ?_;rintro r wx ⟨rfl,rfl⟩;rw [X2.out];(go_wp2_with fail);refine kO hK ((zN vv).1) fun hHeld => ?_
       clear hK K;refine kK 9 q10 ?_;refine kK 10 q11 ?_;refine kK 11 q12 ?_;refine kK 12 q13 ?_;refine kK 13 q14 ?_;refine kK 14 q15 ?_;refine kR 15 q16 (fun K hK => ?_);go_simp;refine (zf x.b 0 A _).mono ?_;rintro r wx ⟨rfl,rfl⟩;rw [X3.out];(go_wp2_with fail);refine kO hK ((zN vv).1) fun hHeld => ?_
       clear hK K;refine kK 16 q17 ?_;refine kK 17 q18 ?_;refine kK 18 q19 ?_;refine kK 19 q20 ?_;refine kK 20 q21 ?_;refine kK 21 q22 ?_;refine kK 22 q23 ?_;refine kK 23 q24 ?_;refine kK 24 q25 ?_;refine kK 25 q26 ?_;refine kK 26 q27 ?_;refine kK 27 q28 ?_;refine kK 28 q29 ?_;refine kK 29 q30 ?_;refine kV 30 q31 (.bool false) ?_;refine kK 31 q32 ?_;refine kN 32 q33 ?_;refine kN 33 q34 ?_;refine kN 34 q35 ?_;refine kN 35 q36 ?_;refine kN 36 q37 ?_;refine kN 37 q38 ?_;refine kN 38 q39 ?_;refine kN 39 q40 ?_;refine kN 40 q41 ?_;refine kN 41 q42 ?_;refine kK 42 q43 ?_;refine kK 43 q44 ?_;refine wpAnyH_done (by kernel_rfl) ?_ _;go_wp2
       go_roundw
       case rel=>exact ⟨k+1,by omega,by go_num,HO.out,zc HB.out (zc (zn _ _) vv)⟩
       case measure=>simp [intOf]; omega
      obtain ⟨j,hj⟩:∃j:Nat,k=j+1:=⟨k - 1,by omega⟩;obtain ⟨y,b',off',hy,e,d0,-,-⟩:=zfS hrb j (by omega);cases e;have hgt:0 < k:=by omega
      have hw:IntKind.i64.wrap ((k:Int) - 1)=(j:Int):=by rw [IntKind.wrap_i64]; omega
      have i3:(0:Int)≤(j:Int):=by omega
      have i4:(j:Int) < (n:Int):=by omega
      by_cases hlty:x.i≤y.i
      ·have HN:=hide (zdH (v:=v) (p:=p) (fun hall=>by have:=(hall k x (by omega) hx).2 y (by omega) (by rw [show k - 1=j by omega]; exact hy); omega));have HJ:=hide hj;clear hok hk0 hj hrow;refine wp_region_held_drew (S:=(fun W=>(zcc W wr.heap.size 0 (.int .i64 x.i)∧zcc W wr.heap.size 1 (.int .i64 x.m)∧zcc W wr.heap.size 2 (.int .i64 x.b))∧zcc W w.heap.size 0 (.slice (some ⟨b,off,none⟩) n c)∧zcc W b (off+j*3) (.int .i64 y.i))) (by kernel_rfl) (⟨(zN vv).1,(zN vv).2 _ _ b1.1,(zN vv).2 _ _ d0⟩) (fun hHeld => ?_);refine kK 0 q1 ?_;refine kK 1 q2 ?_;refine kR 2 q3 (fun K hK => ?_);go_simp;refine (zf x.i 1 99 _).mono ?_;rintro r wx ⟨rfl,rfl⟩;rw [X1.out];(go_wp2_with fail);refine kO hK (⟨(zN vv).1,(zN vv).2 _ _ b1.1,(zN vv).2 _ _ d0⟩) fun hHeld => ?_
       clear hK K;refine kK 3 q4 ?_;refine kK 4 q5 ?_;refine kK 5 q6 ?_;refine kK 6 q7 ?_;refine kK 7 q8 ?_;refine kR 8 q9 (fun K hK => ?_);go_simp;refine (zf x.m 0 A _).mono ?_;rintro r wx ⟨rfl,rfl⟩;rw [X2.out];(go_wp2_with fail);refine kO hK (⟨(zN vv).1,(zN vv).2 _ _ b1.1,(zN vv).2 _ _ d0⟩) fun hHeld => ?_
       clear hK K;refine kK 9 q10 ?_;refine kK 10 q11 ?_;refine kK 11 q12 ?_;refine kK 12 q13 ?_;refine kK 13 q14 ?_;refine kK 14 q15 ?_;refine kR 15 q16 (fun K hK => ?_);go_simp;refine (zf x.b 0 A _).mono ?_;rintro r wx ⟨rfl,rfl⟩;rw [X3.out];(go_wp2_with fail);refine kO hK (⟨(zN vv).1,(zN vv).2 _ _ b1.1,(zN vv).2 _ _ d0⟩) fun hHeld => ?_
       clear hK K;refine kK 16 q17 ?_;refine kK 17 q18 ?_;refine kK 18 q19 ?_;refine kK 19 q20 ?_;refine kK 20 q21 ?_;refine kK 21 q22 ?_;refine kK 22 q23 ?_;refine kK 23 q24 ?_;refine kK 24 q25 ?_;refine kK 25 q26 ?_;refine kK 26 q27 ?_;refine kK 27 q28 ?_;refine kK 28 q29 ?_;refine kK 29 q30 ?_;refine kV 30 q31 (.bool true) ?_;refine kK 31 q32 ?_;refine kK 32 q33 ?_;refine kK 33 q34 ?_;refine kK 34 q35 ?_;refine kK 35 q36 ?_;refine kK 36 q37 ?_;refine kK 37 q38 ?_;refine kK 38 q39 ?_;refine kK 39 q40 ?_;refine kK 40 q41 ?_;refine kK 41 q42 ?_;refine kK 42 q43 ?_;refine kK 43 q44 ?_;refine wpAnyH_done (by kernel_rfl) ?_ _;go_wp2;go_ret;exact ⟨zai HN.out.symm,zc hW (zc HB.out (zc (zn _ _) vv))⟩
      ·have HO:=hide (zeb hok hx hrow (fun z _ hz=>by rw [show k - 1=j by omega,hy] at hz; cases hz; omega));have HJ:=hide hj;clear hok hk0 hj hrow;refine wp_region_held_drew (S:=(fun W=>(zcc W wr.heap.size 0 (.int .i64 x.i)∧zcc W wr.heap.size 1 (.int .i64 x.m)∧zcc W wr.heap.size 2 (.int .i64 x.b))∧zcc W w.heap.size 0 (.slice (some ⟨b,off,none⟩) n c)∧zcc W b (off+j*3) (.int .i64 y.i))) (by kernel_rfl) (⟨(zN vv).1,(zN vv).2 _ _ b1.1,(zN vv).2 _ _ d0⟩) (fun hHeld => ?_);refine kK 0 q1 ?_;refine kK 1 q2 ?_;refine kR 2 q3 (fun K hK => ?_);go_simp;refine (zf x.i 1 99 _).mono ?_;rintro r wx ⟨rfl,rfl⟩;rw [X1.out];(go_wp2_with fail);refine kO hK (⟨(zN vv).1,(zN vv).2 _ _ b1.1,(zN vv).2 _ _ d0⟩) fun hHeld => ?_
       clear hK K;refine kK 3 q4 ?_;refine kK 4 q5 ?_;refine kK 5 q6 ?_;refine kK 6 q7 ?_;refine kK 7 q8 ?_;refine kR 8 q9 (fun K hK => ?_);go_simp;refine (zf x.m 0 A _).mono ?_;rintro r wx ⟨rfl,rfl⟩;rw [X2.out];(go_wp2_with fail);refine kO hK (⟨(zN vv).1,(zN vv).2 _ _ b1.1,(zN vv).2 _ _ d0⟩) fun hHeld => ?_
       clear hK K;refine kK 9 q10 ?_;refine kK 10 q11 ?_;refine kK 11 q12 ?_;refine kK 12 q13 ?_;refine kK 13 q14 ?_;refine kK 14 q15 ?_;refine kR 15 q16 (fun K hK => ?_);go_simp;refine (zf x.b 0 A _).mono ?_;rintro r wx ⟨rfl,rfl⟩;rw [X3.out];(go_wp2_with fail);refine kO hK (⟨(zN vv).1,(zN vv).2 _ _ b1.1,(zN vv).2 _ _ d0⟩) fun hHeld => ?_
       clear hK K;refine kK 16 q17 ?_;refine kK 17 q18 ?_;refine kK 18 q19 ?_;refine kK 19 q20 ?_;refine kK 20 q21 ?_;refine kK 21 q22 ?_;refine kK 22 q23 ?_;refine kK 23 q24 ?_;refine kK 24 q25 ?_;refine kK 25 q26 ?_;refine kK 26 q27 ?_;refine kK 27 q28 ?_;refine kK 28 q29 ?_;refine kK 29 q30 ?_;refine kV 30 q31 (.bool true) ?_;refine kK 31 q32 ?_;refine kK 32 q33 ?_;refine kK 33 q34 ?_;refine kK 34 q35 ?_;refine kK 35 q36 ?_;refine kK 36 q37 ?_;refine kK 37 q38 ?_;refine kK 38 q39 ?_;refine kK 39 q40 ?_;refine kK 40 q41 ?_;refine kK 41 q42 ?_;refine kK 42 q43 ?_;refine kK 43 q44 ?_;refine wpAnyH_done (by kernel_rfl) ?_ _;go_wp2
       go_roundw
       case rel=>exact ⟨k+1,by omega,by go_num,HO.out,zc HB.out (zc (zn _ _) vv)⟩
       case measure=>simp [intOf]; omega
     ·have hkn:n=k:=by omega
      subst hkn;have hall:vokTo A v.rows v.rows.length:=by rw [hsz]; exact hok
      have HB:=hide hb;have HH:=hide hall;clear hb hok hall;(go_wp2_with fail)
      go_loopw [8] (fun i wx=>∃j:Nat,j≤p∧i=.int .i64 j∧ownTo v j∧Below w1.heap.size w1 wx) (fun i _=>p - (intOf i).toNat)
      case atStart=>exact ⟨0,Nat.zero_le _,rfl,fun i x hi=>by omega,HB.out⟩
      case round =>
       obtain ⟨j,hj,rfl,hown,hb⟩:=hrel;have b2:=zaA hw1 hb;have hrows:=h.rows.below hb;by_cases hltj:j < p
       ·obtain ⟨z,bo,oo,hz0,rfl,hz⟩:=zg9 (h.own.below hb) j hltj;have HB2:=hide hb;clear hb;have i3:(0:Int)≤(j:Int):=by omega
        have i4:(j:Int) < (p:Int):=by omega
        have vv:Below wr.heap.size wr wr.drew:=zG (Below.refl _ _);cases hrz:zbs v.rows z with
        | none =>
         have HN:=hide (zis (v:=v) (p:=p) (List.mem_of_getElem? hz0) hrz);have HR:Hid (rowAt v.rows z = -1):=hide (by unfold rowAt; rw [hrz]);clear hown hrz;(go_wp2_with fail);refine wp_region_held_drew (S:=(fun W=>zcc W w.heap.size 0 (.slice a n c)∧zcc W w.heap.size 1 (.slice (some ⟨bo,oo,none⟩) p q)∧zcc W bo (oo+j) (.int .i64 z))) (by kernel_rfl) (⟨zat b2.1 vv,zat b2.2 vv,zat hz vv⟩) (fun hHeld => ?_);refine kK 0 q45 ?_;refine kK 1 q46 ?_;refine kK 2 q47 ?_;refine kK 3 q48 ?_;refine kK 4 q49 ?_;refine kK 5 q50 ?_;refine kR 6 q51 (fun K hK => ?_);go_simp;refine (zcE a n c v.rows (some ⟨bo,oo,none⟩) p q z _ (hrows.below vv)).mono ?_;rintro r wx ⟨rfl,hbx⟩;rw [HR.out];have vv:=zc vv hbx;(go_wp2_with fail);refine kO hK (⟨zat b2.1 vv,zat b2.2 vv,zat hz vv⟩) fun hHeld => ?_
         clear hK K;refine kK 7 q52 ?_;refine wpAnyH_done (by kernel_rfl) ?_ _;go_wp2;go_ret;exact ⟨zai HN.out.symm,zc hW (zc HB2.out vv)⟩
        | some kz =>
         have HO:=hide (zgI hown hz0 (by rw [hrz]; simp));have HR:Hid (rowAt v.rows z=(kz:Int)):=hide (by unfold rowAt; rw [hrz]);clear hown hrz;(go_wp2_with fail);refine wp_region_held_drew (S:=(fun W=>zcc W w.heap.size 0 (.slice a n c)∧zcc W w.heap.size 1 (.slice (some ⟨bo,oo,none⟩) p q)∧zcc W bo (oo+j) (.int .i64 z))) (by kernel_rfl) (⟨zat b2.1 vv,zat b2.2 vv,zat hz vv⟩) (fun hHeld => ?_);refine kK 0 q45 ?_;refine kK 1 q46 ?_;refine kK 2 q47 ?_;refine kK 3 q48 ?_;refine kK 4 q49 ?_;refine kK 5 q50 ?_;refine kR 6 q51 (fun K hK => ?_);go_simp;refine (zcE a n c v.rows (some ⟨bo,oo,none⟩) p q z _ (hrows.below vv)).mono ?_;rintro r wx ⟨rfl,hbx⟩;rw [HR.out];have vv:=zc vv hbx;(go_wp2_with fail);refine kO hK (⟨zat b2.1 vv,zat b2.2 vv,zat hz vv⟩) fun hHeld => ?_
         clear hK K;refine kK 7 q52 ?_;refine wpAnyH_done (by kernel_rfl) ?_ _;go_wp2
         go_roundw
         case rel=>exact ⟨j+1,by omega,by go_num,HO.out,zc HB2.out vv⟩
         case measure=>simp [intOf]; omega
       ·have HN:=hide (zit (v:=v) (p:=p) t1.1 t1.2 hsz2 (by omega) (by rw [hA]; exact HH.out) (fun i hi=>zho hown (by omega) i hi));have HB2:=hide hb;clear hb hown;have hjp:p=j:=by omega
        subst hjp;go_wp2;go_ret;exact ⟨zai HN.out.symm,zc hW HB2.out⟩
   ·have HN:Hid (zaK v ports=false):=hide (by unfold zaK; rw [hsz]; simp [t3]);subst t2;go_enter Tryz.func139,Tryz.ntmps139;go_wp2_with (refine (zf (p:Int) 1 6 _).mono ?_; rintro r w1 ⟨rfl,rfl⟩; rw [T1.out])
    go_ret;exact ⟨zai HN.out.symm,hW⟩
  ·have HN:Hid (zaK v ports=false):=hide (by unfold zaK; rw [hsz2]; simp [t2]);go_enter Tryz.func139,Tryz.ntmps139;go_wp2_with (refine (zf ports 1 6 _).mono ?_; rintro r w1 ⟨rfl,rfl⟩; rw [T1.out])
   go_ret;exact ⟨zai HN.out.symm,hW⟩

end Go.Proofs.YtkaefmfopejbaaaGreat
