/-
  Packed: NetBeside DrawNt2 BrNewS BrBuild.
-/
import Derived.Test.YtkcoehmpnkdinaaGreatPNBrOkS
import Derived.Test.YtkcoehmpnkdinaaGreatPNK11
import Derived.Deep.Cut
namespace Go.Proofs.YtkcoehmpnkdinaaGreat
set_option maxRecDepth 100000
set_option maxHeartbeats 16000000
open Go.RowKit

def zaG (b p:Int) (x:LK):Option (Int × Int):=if x.a=b∧x.p=p then some (x.b,x.q) else if x.b=b∧x.q=p then some (x.a,x.p) else none
def zaM (ls:List LK) (b p:Int):Option (Int × Int):=ls.findSome? (zaG b p)
def zdm (o:Option (Int × Int)):Value:=match o with
 | some (x,y)=>.tuple #[.int .i64 x,.int .i64 y,.bool true]
 | none=>.tuple #[.int .i64 (-1),.int .i64 (-1),.bool false]

theorem zes {ls:List LK} {b p:Int} (h:∀x∈ls,zaG b p x=none):zaM ls b p=none:=by
 unfold zaM;exact List.findSome?_eq_none_iff.2 h

theorem zcW {ls:List LK} {b p:Int} {k:Nat} {x:LK} (hx:ls[k]? = some x) (hn:∀y∈ls.take k,zaG b p y=none) {q:Int × Int} (hq:zaG b p x=some q):zaM ls b p=some q:=by
 have hk:=(List.getElem?_eq_some_iff.1 hx).1;have e:ls=ls.take k++x::ls.drop (k+1):=by
  obtain ⟨h,rfl⟩:=List.getElem?_eq_some_iff.1 hx;rw [← List.drop_eq_getElem_cons h,List.take_append_drop]
 unfold zaM;rw [e,List.findSome?_append,List.findSome?_eq_none_iff.2 hn,Option.none_or,List.findSome?_cons,hq]

theorem zg9 {ls:List LK} {b p:Int} {k:Nat} {x:LK} (hx:ls[k]? = some x) (hn:∀y∈ls.take k,zaG b p y=none) (hq:zaG b p x=none):∀y∈ls.take (k+1),zaG b p y=none:=by
 rw [List.take_add_one,hx];intro y hy;rcases List.mem_append.1 hy with hy | hy
 ·exact hn y hy
 ·have:=List.mem_singleton.1 (by simpa using hy); rw [this]; exact hq

theorem zO {w:World} {g:Nat} {T:TypeId} {c0 c1 c2 c3:Value} (h:w.heap[g]? = some (.cells #[c0,c1,c2,c3] T)):w.cell? ⟨g,0,none⟩=some c0∧w.cell? ⟨g,1,none⟩=some c1∧w.cell? ⟨g,2,none⟩=some c2∧w.cell? ⟨g,3,none⟩=some c3:=by
 simp [World.cell?,h]

theorem zJ {w:World} {g:Nat} {T:TypeId} {c0 c1:Value} (h:w.heap[g]? = some (.cells #[c0,c1] T)):w.cell? ⟨g,0,none⟩=some c0∧w.cell? ⟨g,1,none⟩=some c1:=by
 simp [World.cell?,h]

theorem zd {w:World} {g:Nat} {T:TypeId} {c0 c1 c2:Value} (h:w.heap[g]? = some (.cells #[c0,c1,c2] T)):w.cell? ⟨g,0,none⟩=some c0∧w.cell? ⟨g,1,none⟩=some c1∧w.cell? ⟨g,2,none⟩=some c2:=by
 simp [World.cell?,h]

theorem zfj (N:NV) (b p:Int) (w:World) (h:zas w N) :
  Calls Tryz.prog 10 #[.agg #[.slice N.ba N.bn N.bc,.slice N.la N.ln N.lc,.slice N.sa N.sn N.sc],.int .i64 b,.int .i64 p] w fun e w'=>e=.returned (zdm (zaM N.ls b p))∧Below w.heap.size w w':=by
 have hle:=Nat.le_trans h.l.le h.l.top;unfold maxLen at hle;have hsz:=hide h.l.size;go_enter Tryz.func10,Tryz.ntmps10;go_wp2_with fail
 generalize hw1:w.alloc (Obj.cells #[.slice N.ba N.bn N.bc,.slice N.la N.ln N.lc,.slice N.sa N.sn N.sc] 31)=w1;have b01:=zb hw1;have k1:=zk hw1;clear hw1
 go_loopw [9] (fun i wr=>∃k:Nat,k≤N.ln∧i=.int .i64 k∧(∀y∈N.ls.take k,zaG b p y=none)∧wr.heap[w.heap.size]? = some (.cells #[.slice N.ba N.bn N.bc,.slice N.la N.ln N.lc,.slice N.sa N.sn N.sc] 31)∧Below w.heap.size w wr) (fun i _=>N.ln - (intOf i).toNat)
 case atStart=>exact ⟨0,Nat.zero_le _,rfl,by intro y hy; simp at hy,k1,b01⟩
 case round =>
  obtain ⟨k,hk,rfl,hn,hbox,hb⟩:=hrel;clear k1 b01;obtain ⟨x0,x1,x2⟩:=zd hbox;by_cases hlt:k < N.ln
  ·obtain ⟨x,lb,off,hx,hla,a0,a1,a2,a3⟩:=zaX (h.l.below hb) k hlt;rw [hla] at x1;clear hla;have i1:(0:Int)≤(k:Int):=by omega
   have i2:(k:Int) < (N.ln:Int):=by omega
   have HX:=hide hx;have HN:=hide hn;have HB:=hide hb;have KB:Hid (∀o:Obj,(wr.alloc o).heap[w.heap.size]? = some (.cells #[.slice N.ba N.bn N.bc,.slice N.la N.ln N.lc,.slice N.sa N.sn N.sc] 31)∧Below w.heap.size w (wr.alloc o)):=hide (fun o=>⟨za hbox (zg _ _),zc hb (zg _ _)⟩);clear hx hn hb hbox;by_cases e1:x.a=b∧x.p=p
   ·obtain ⟨q1,q2⟩:=e1;have HG:Hid (zaM N.ls b p=some (x.b,x.q)):=hide (zcW HX.out HN.out (by unfold zaG; rw [if_pos ⟨q1,q2⟩]));(go_wp2_with fail)
    go_region
    go_wp2;rw [HG.out];exact bodyPost_ret (v:=.tuple #[.int .i64 x.b,.int .i64 x.q,.bool true]) (by simp [results,Tryz.results10,go_sem, *]) rfl ⟨rfl,zr (zc HB.out (zg _ _))⟩
   ·by_cases e2:x.b=b∧x.q=p
    ·have HG:Hid (zaM N.ls b p=some (x.a,x.p)):=hide (zcW HX.out HN.out (by unfold zaG; rw [if_neg e1,if_pos e2]));obtain ⟨q3,q4⟩:=e2;by_cases q1:x.a=b
     ·have q2:¬x.p=p:=fun q=>e1 ⟨q1,q⟩
      (go_wp2_with fail)
      go_region
      go_wp2;rw [HG.out];exact bodyPost_ret (v:=.tuple #[.int .i64 x.a,.int .i64 x.p,.bool true]) (by simp [results,Tryz.results10,go_sem, *]) rfl ⟨rfl,zr (zc HB.out (zg _ _))⟩
     ·(go_wp2_with fail)
      go_region
      go_wp2;rw [HG.out];exact bodyPost_ret (v:=.tuple #[.int .i64 x.a,.int .i64 x.p,.bool true]) (by simp [results,Tryz.results10,go_sem, *]) rfl ⟨rfl,zr (zc HB.out (zg _ _))⟩
    ·have HT:=hide (zg9 HX.out HN.out (by unfold zaG; rw [if_neg e1,if_neg e2]));by_cases q1:x.a=b
     ·have q2:¬x.p=p:=fun q=>e1 ⟨q1,q⟩
      by_cases q3:x.b=b
      ·have q4:¬x.q=p:=fun q=>e2 ⟨q3,q⟩
       go_wp2
       go_roundw
       case rel=>exact ⟨k+1,by omega,by go_num,HT.out,KB.out _⟩
       case measure=>simp [intOf]; omega
      ·go_wp2
       go_roundw
       case rel=>exact ⟨k+1,by omega,by go_num,HT.out,KB.out _⟩
       case measure=>simp [intOf]; omega
     ·by_cases q3:x.b=b
      ·have q4:¬x.q=p:=fun q=>e2 ⟨q3,q⟩
       go_wp2
       go_roundw
       case rel=>exact ⟨k+1,by omega,by go_num,HT.out,KB.out _⟩
       case measure=>simp [intOf]; omega
      ·go_wp2
       go_roundw
       case rel=>exact ⟨k+1,by omega,by go_num,HT.out,KB.out _⟩
       case measure=>simp [intOf]; omega
  ·have hkn:k=N.ln:=by omega
   rw [List.take_of_length_le (by have:=hsz.out; omega)] at hn;have HG:=hide (zes hn);subst hkn;go_wp2;rw [HG.out];exact bodyPost_ret (v:=.tuple #[.int .i64 (-1),.int .i64 (-1),.bool false]) (by simp [results,Tryz.results10,go_sem, *]) rfl ⟨rfl,hb⟩

theorem zdT (a b a' b':Int) (w:World):(binOp .eql 67 (.agg #[.int .i64 a,.int .i64 b]) (.agg #[.int .i64 a',.int .i64 b'])).run Tryz.prog w=.ok (.bool ((a == a') && (b == b'))) w:=by
 have u3:=Tryz.underlying3;have a3:=Tryz.isAgg3;have z3:=Tryz.sizeOf3;have hS:Tryz.prog.underlying 67=some (.struct (Tryz.prog.fieldsOf 67)):=by kernel_rfl
 have hp:Tryz.prog.stoodInHeld 67=false:=by kernel_rfl
 rw [run_eql_struct,show (10000:Nat)=9999+1 from rfl,run_equalIn_agg w 9999 67 _ _ hS hp];simp only [Program.fieldsOf,Tryz.underlying67];go_simp;by_cases h1:a=a' <;> by_cases h2:b=b' <;> simp [h1,h2]

theorem zdU (x:LK) (w:World):Calls Tryz.prog 30 #[.agg #[.int .i64 x.a,.int .i64 x.p,.int .i64 x.b,.int .i64 x.q]] w fun e w'=>e=.returned (.agg #[.int .i64 x.a,.int .i64 x.p,.int .i64 x.b,.int .i64 x.q])∧Below w.heap.size w w':=by
 go_enter Tryz.func30,Tryz.ntmps30;go_wp2;exact bodyPost_ret (v:=.agg #[.int .i64 x.a,.int .i64 x.p,.int .i64 x.b,.int .i64 x.q]) (by simp [results,Tryz.results30,go_sem, *]) rfl ⟨rfl,zX _ _ _⟩

theorem zca (N:NV) (b p:Int) (w:World) (h:zas w N) :
  Calls Tryz.prog 9 #[.agg #[.slice N.ba N.bn N.bc,.slice N.la N.ln N.lc,.slice N.sa N.sn N.sc],.int .i64 b,.int .i64 p] w fun e w'=>e=.returned (zdm (zaM N.ls b p))∧Below w.heap.size w w':=by
 obtain ⟨ba,bn,bc,bs,la,ln,lc,ls,sa,sn,sc,ss⟩:=N;obtain ⟨-,-,hL,-⟩:=h;dsimp only at hL ⊢;have hle:=Nat.le_trans hL.le hL.top;unfold maxLen at hle;have hsz:=hide hL.size;generalize hw1:w.alloc (Obj.cells #[.slice ba bn bc,.slice la ln lc,.slice sa sn sc] 31)=w1;generalize hw2:w1.alloc (Obj.cells #[.int .i64 b,.int .i64 p] 67)=w2;have b01:=zb hw1;have b12:=zb hw2;have k1:=za (zk hw1) b12;have k2:=zk hw2;have b02:=zc b01 b12;obtain ⟨x0,x1,x2⟩:=zd k1;go_enter Tryz.func9,Tryz.ntmps9;go_wp2_with fail
 generalize hX:w1.heap.size=X at *;clear hw1 hw2 x0 x1 x2
 go_loopw [19] (fun i wr=>∃k:Nat,k≤ln∧i=.int .i64 k∧(∀y∈ls.take k,zaG b p y=none)∧wr.heap[X]? = some (.cells #[.int .i64 b,.int .i64 p] 67)∧Below w.heap.size w wr) (fun i _=>ln - (intOf i).toNat)
 case atStart=>exact ⟨0,Nat.zero_le _,rfl,by intro y hy; simp at hy,k2,b02⟩
 case round =>
  obtain ⟨k,hk,rfl,hn,hbox,hb⟩:=hrel;clear k1 k2 b02 b01 b12;by_cases hlt:k < ln
  ·obtain ⟨x,lb,off,hx,rfl,a0,a1,a2,a3⟩:=zaX (hL.below hb) k hlt;have i1:(0:Int)≤(k:Int):=by omega
   have i2:(k:Int) < (ln:Int):=by omega
   have HX:=hide hx;have HN:=hide hn;generalize hwa:wr.alloc (Obj.cells #[.int .i64 x.a,.int .i64 x.p,.int .i64 x.b,.int .i64 x.q] 44)=wa;have ba:=zb hwa;have ka:=zk hwa;have hbx:=za hbox ba;have hba:=zc hb ba;obtain ⟨y0,y1,y2,y3⟩:=zO ka;clear hx hn hb hbox;(go_wp2_with fail);refine (zdU x _).mono ?_;rintro e we ⟨rfl,hbe⟩;have ke:=za ka hbe;have hbx:=za hbx hbe;have hbe':=zc hba hbe;generalize hR:wr.heap.size=R at *;clear hwa y0 y1 y2 y3 ka ba hbe hba a0 a1 a2 a3;generalize hwq:we.alloc (Obj.cells #[.int .i64 x.a,.int .i64 x.p,.int .i64 x.b,.int .i64 x.q] 68)=wq;have bq:=zb hwq;have kq:=zk hwq;have ke:=za ke bq;have hbx:=za hbx bq;have HBQ:=hide (zc hbe' bq);obtain ⟨y0,y1,y2,y3⟩:=zO ke;obtain ⟨z0,z1,z2,z3⟩:=zO kq;obtain ⟨u0,u1⟩:=zJ hbx;have HBX:=hide hbx;clear hbe' bq ke kq hbx;have hgd:Tryz.prog.eqGuardType Tryz.prog.depth 67=false:=by kernel_rfl
   by_cases e1:x.a=b∧x.p=p
   ·have HG:Hid (zaM ls b p=some (x.b,x.q)):=hide (zcW HX.out HN.out (by unfold zaG; rw [if_pos e1]));have he:∀W,(binOp .eql 67 (.agg #[.int .i64 b,.int .i64 p]) (.agg #[.int .i64 x.a,.int .i64 x.p])).run Tryz.prog W=.ok (.bool true) W:=fun W=>by rw [zdT,e1.1,e1.2]; simp
    clear e1;(go_wp2_with fail)
    go_region
    go_wp2;rw [HG.out];exact bodyPost_ret (v:=.tuple #[.int .i64 x.b,.int .i64 x.q,.bool true]) (by simp [results,Tryz.results9,go_sem, *]) rfl ⟨rfl,zr HBQ.out⟩
   ·have he:∀W,(binOp .eql 67 (.agg #[.int .i64 b,.int .i64 p]) (.agg #[.int .i64 x.a,.int .i64 x.p])).run Tryz.prog W=.ok (.bool false) W:=fun W=>by
     rw [zdT,show ((b == x.a) && (p == x.p))=false by
      cases h1:(b == x.a) && (p == x.p)
      ·rfl
      ·simp at h1; exact absurd ⟨h1.1.symm,h1.2.symm⟩ e1]
    by_cases e2:x.b=b∧x.q=p
    ·have HG:Hid (zaM ls b p=some (x.a,x.p)):=hide (zcW HX.out HN.out (by unfold zaG; rw [if_neg e1,if_pos e2]));have he2:∀W,(binOp .eql 67 (.agg #[.int .i64 b,.int .i64 p]) (.agg #[.int .i64 x.b,.int .i64 x.q])).run Tryz.prog W=.ok (.bool true) W:=fun W=>by rw [zdT,e2.1,e2.2]; simp
     clear e1 e2;(go_wp2_with fail)
     go_region
     go_wp2;rw [HG.out];exact bodyPost_ret (v:=.tuple #[.int .i64 x.a,.int .i64 x.p,.bool true]) (by simp [results,Tryz.results9,go_sem, *]) rfl ⟨rfl,zr HBQ.out⟩
    ·have HT:=hide (zg9 HX.out HN.out (by unfold zaG; rw [if_neg e1,if_neg e2]));have he2:∀W,(binOp .eql 67 (.agg #[.int .i64 b,.int .i64 p]) (.agg #[.int .i64 x.b,.int .i64 x.q])).run Tryz.prog W=.ok (.bool false) W:=fun W=>by
      rw [zdT,show ((b == x.b) && (p == x.q))=false by
       cases h1:(b == x.b) && (p == x.q)
       ·rfl
       ·simp at h1; exact absurd ⟨h1.1.symm,h1.2.symm⟩ e2]
     clear e1 e2;go_wp2
     go_roundw
     case rel=>exact ⟨k+1,by omega,by go_num,HT.out,HBX.out,HBQ.out⟩
     case measure=>simp [intOf]; omega
  ·have hkn:k=ln:=by omega
   rw [List.take_of_length_le (by have:=hsz.out; omega)] at hn;have HG:=hide (zes hn);subst hkn;go_wp2;rw [HG.out];exact bodyPost_ret (v:=.tuple #[.int .i64 (-1),.int .i64 (-1),.bool false]) (by simp [results,Tryz.results9,go_sem, *]) rfl ⟨rfl,hb⟩

theorem zgF (C:Nat) (a0:Option Addr) (l0 c0:Nat) (z0:List Int) (N:NV) (w:World) (hc:Cur w C a0 l0 c0 z0) (hbn:N.bn≤1048576) (hln:N.ln≤1048576) (hsn:N.sn≤1048576) :
  Calls Tryz.prog 77 #[.pointer (some ⟨C,0,none⟩),.agg #[.slice N.ba N.bn N.bc,.slice N.la N.ln N.lc,.slice N.sa N.sn N.sc]] w fun e w'=>∃kd i:Int,e=.returned (.agg #[.int .i64 kd,.int .i64 i])∧Went w w' C a0 l0 c0 z0:=by
 have hlt:=hc.lt;have HBB:=hide hbn;have HLL:=hide hln;have HSN:=hide hsn;generalize hw1:w.alloc (Obj.cells #[.slice N.ba N.bn N.bc,.slice N.la N.ln N.lc,.slice N.sa N.sn N.sc] 31)=w1;generalize hw2:w1.alloc (Obj.cells #[.int .i64 0,.int .i64 0] 123)=wc;have b01:=zb hw1;have b12:=zb hw2;have wn:=Went.start hc (zc b01 b12);have HZ:Hid (w1.heap.size=w.heap.size+1):=hide (by rw [← hw1]; simp);have HX:Hid (w.heap.size≤w1.heap.size):=hide b01.size;have HCN:Hid (C≠w.heap.size):=hide (by omega);have HCE:Hid (C≠w1.heap.size):=hide (by have:=HZ.out; omega);have HNE:Hid (w1.heap.size≠w.heap.size):=hide (by have:=HZ.out; omega);have kN:=za (zk hw1) b12;have kE:=zk hw2;obtain ⟨x0,x1,x2⟩:=zd kN;obtain ⟨t0,t1⟩:=zJ kE;have f0:=zi kE 0;have f1:=zi kE 1;clear b01 b12;by_cases hs0:0 < (N.sn:Int)
 ·go_enter Tryz.func77,Tryz.ntmps77;(go_wp2_with fail);clear hw1 hw2;refine (zdK C a0 l0 c0 z0 2 _ wn.cur (by omega)).mono ?_;rintro e wz ⟨q,rfl,wt⟩;have kN:=ze kN wt.grown (fun j e=>by cases e; exact HCN.out);have kE:=ze kE wt.grown (fun j e=>by cases e; exact HCE.out);have wn:=wn.trans wt;clear wt x0 x1 x2 t0 t1 f0 f1;generalize wz=wc at *;obtain ⟨x0,x1,x2⟩:=zd kN;obtain ⟨t0,t1⟩:=zJ kE;have f0:=zi kE 0;have f1:=zi kE 1;cases q
  ·(go_wp2_with fail);generalize hwa:wc.alloc (Obj.cells #[.int .i64 1,.int .i64 1,.int .i64 1,.int .i64 1,.int .i64 4,.int .i64 5,.int .i64 6] 3)=wa;have ba:=zb hwa;have ka:=zk hwa;have hCa:C < wc.heap.size:=wn.cur.lt;have kN:=za kN ba;have kE:=za kE ba;have wn:=wn.made ba;(go_wp2_with fail);refine (zb6 C a0 l0 c0 z0 [1,1,1,1,4,5,6] _ _ _ wn.cur hCa ka rfl (by simp) (by simp)).mono ?_;rintro e wz ⟨kd,-,rfl,wt⟩;have kN:=ze kN wt.grown (fun j e=>by cases e; exact HCN.out);have kE:=ze kE wt.grown (fun j e=>by cases e; exact HCE.out);have wn:=wn.trans wt;clear wt x0 x1 x2 t0 t1 f0 f1;generalize wz=wc at *;obtain ⟨x0,x1,x2⟩:=zd kN;obtain ⟨t0,t1⟩:=zJ kE;have f0:=zi kE 0;have f1:=zi kE 1;clear ka hwa ba hCa;by_cases h45:kd=4∨kd=5
   ·have hcut:True:=trivial;by_cases hl0:N.ln=0
    ·have hl0':((N.ln:Int) == 0)=true:=by simp [hl0]
     rcases h45 with rfl | rfl
     ·have kQ:((wc.setCell ⟨w1.heap.size,0,none⟩ (.int .i64 6)).setCell ⟨w1.heap.size,1,none⟩ (.int .i64 0)).heap[w1.heap.size]? = some (.cells #[.int .i64 6,.int .i64 0] 123):=zac (K:=fun V=>V.heap[w1.heap.size]? = some (.cells #[.int .i64 6,.int .i64 0] 123)) kE _ _ (fun _ k _=>k);have gQ:wc.grownBy ((wc.setCell ⟨w1.heap.size,0,none⟩ (.int .i64 6)).setCell ⟨w1.heap.size,1,none⟩ (.int .i64 0)) (some w1.heap.size):=zac (K:=fun V=>wc.grownBy V (some w1.heap.size)) kE _ _ (fun _ _ k=>k);have HW:=hide (wn.madeAt ((Below.refl w.heap.size _).grown gQ wn.grown.size (fun k e=>by cases e; exact HX.out)) hlt (Nat.le_refl _));have r0:(wc.setCell ⟨w1.heap.size,0,none⟩ (.int .i64 6)).cell? ⟨w1.heap.size,0,none⟩=some (.int .i64 6):=World.cell?_setCell_same' _ _ _ (by rw [t0]; rfl);have r1:=(zJ kQ).2;clear kQ gQ;go_wp2;exact bodyPost_ret (v:=.agg #[.int .i64 6,.int .i64 0]) (by simp [results,Tryz.results77,go_sem, *]) rfl ⟨_,_,rfl,HW.out⟩
     ·have kQ:((wc.setCell ⟨w1.heap.size,0,none⟩ (.int .i64 6)).setCell ⟨w1.heap.size,1,none⟩ (.int .i64 0)).heap[w1.heap.size]? = some (.cells #[.int .i64 6,.int .i64 0] 123):=zac (K:=fun V=>V.heap[w1.heap.size]? = some (.cells #[.int .i64 6,.int .i64 0] 123)) kE _ _ (fun _ k _=>k);have gQ:wc.grownBy ((wc.setCell ⟨w1.heap.size,0,none⟩ (.int .i64 6)).setCell ⟨w1.heap.size,1,none⟩ (.int .i64 0)) (some w1.heap.size):=zac (K:=fun V=>wc.grownBy V (some w1.heap.size)) kE _ _ (fun _ _ k=>k);have HW:=hide (wn.madeAt ((Below.refl w.heap.size _).grown gQ wn.grown.size (fun k e=>by cases e; exact HX.out)) hlt (Nat.le_refl _));have r0:(wc.setCell ⟨w1.heap.size,0,none⟩ (.int .i64 6)).cell? ⟨w1.heap.size,0,none⟩=some (.int .i64 6):=World.cell?_setCell_same' _ _ _ (by rw [t0]; rfl);have r1:=(zJ kQ).2;clear kQ gQ;go_wp2;exact bodyPost_ret (v:=.agg #[.int .i64 6,.int .i64 0]) (by simp [results,Tryz.results77,go_sem, *]) rfl ⟨_,_,rfl,HW.out⟩
    ·have hl0':¬(N.ln:Int)=0:=by omega
     rcases h45 with rfl | rfl
     ·(go_wp2_with fail);refine (zy C a0 l0 c0 z0 (N.ln:Int) _ wn.cur (by have:=HLL.out; omega)).mono ?_;rintro e wz ⟨i,rfl,-,-,-,wt⟩;have kN:=ze kN wt.grown (fun j e=>by cases e; exact HCN.out);have kE:=ze kE wt.grown (fun j e=>by cases e; exact HCE.out);have wn:=wn.trans wt;clear wt x0 x1 x2 t0 t1 f0 f1;generalize wz=wc at *;obtain ⟨x0,x1,x2⟩:=zd kN;obtain ⟨t0,t1⟩:=zJ kE;have f0:=zi kE 0;have f1:=zi kE 1;have kQ:((wc.setCell ⟨w1.heap.size,0,none⟩ (.int .i64 4)).setCell ⟨w1.heap.size,1,none⟩ (.int .i64 i)).heap[w1.heap.size]? = some (.cells #[.int .i64 4,.int .i64 i] 123):=zac (K:=fun V=>V.heap[w1.heap.size]? = some (.cells #[.int .i64 4,.int .i64 i] 123)) kE _ _ (fun _ k _=>k);have gQ:wc.grownBy ((wc.setCell ⟨w1.heap.size,0,none⟩ (.int .i64 4)).setCell ⟨w1.heap.size,1,none⟩ (.int .i64 i)) (some w1.heap.size):=zac (K:=fun V=>wc.grownBy V (some w1.heap.size)) kE _ _ (fun _ _ k=>k);have HW:=hide (wn.madeAt ((Below.refl w.heap.size _).grown gQ wn.grown.size (fun k e=>by cases e; exact HX.out)) hlt (Nat.le_refl _));have r0:(wc.setCell ⟨w1.heap.size,0,none⟩ (.int .i64 4)).cell? ⟨w1.heap.size,0,none⟩=some (.int .i64 4):=World.cell?_setCell_same' _ _ _ (by rw [t0]; rfl);have r1:=(zJ kQ).2;clear kQ gQ;go_wp2;exact bodyPost_ret (v:=.agg #[.int .i64 4,.int .i64 i]) (by simp [results,Tryz.results77,go_sem, *]) rfl ⟨_,_,rfl,HW.out⟩
     ·(go_wp2_with fail);refine (zy C a0 l0 c0 z0 (N.ln:Int) _ wn.cur (by have:=HLL.out; omega)).mono ?_;rintro e wz ⟨i,rfl,-,-,-,wt⟩;have kN:=ze kN wt.grown (fun j e=>by cases e; exact HCN.out);have kE:=ze kE wt.grown (fun j e=>by cases e; exact HCE.out);have wn:=wn.trans wt;clear wt x0 x1 x2 t0 t1 f0 f1;generalize wz=wc at *;obtain ⟨x0,x1,x2⟩:=zd kN;obtain ⟨t0,t1⟩:=zJ kE;have f0:=zi kE 0;have f1:=zi kE 1;have kQ:((wc.setCell ⟨w1.heap.size,0,none⟩ (.int .i64 5)).setCell ⟨w1.heap.size,1,none⟩ (.int .i64 i)).heap[w1.heap.size]? = some (.cells #[.int .i64 5,.int .i64 i] 123):=zac (K:=fun V=>V.heap[w1.heap.size]? = some (.cells #[.int .i64 5,.int .i64 i] 123)) kE _ _ (fun _ k _=>k);have gQ:wc.grownBy ((wc.setCell ⟨w1.heap.size,0,none⟩ (.int .i64 5)).setCell ⟨w1.heap.size,1,none⟩ (.int .i64 i)) (some w1.heap.size):=zac (K:=fun V=>wc.grownBy V (some w1.heap.size)) kE _ _ (fun _ _ k=>k);have HW:=hide (wn.madeAt ((Below.refl w.heap.size _).grown gQ wn.grown.size (fun k e=>by cases e; exact HX.out)) hlt (Nat.le_refl _));have r0:(wc.setCell ⟨w1.heap.size,0,none⟩ (.int .i64 5)).cell? ⟨w1.heap.size,0,none⟩=some (.int .i64 5):=World.cell?_setCell_same' _ _ _ (by rw [t0]; rfl);have r1:=(zJ kQ).2;clear kQ gQ;go_wp2;exact bodyPost_ret (v:=.agg #[.int .i64 5,.int .i64 i]) (by simp [results,Tryz.results77,go_sem, *]) rfl ⟨_,_,rfl,HW.out⟩
   ·have h4:¬kd=4:=fun e=>h45 (.inl e)
    have h5:¬kd=5:=fun e=>h45 (.inr e)
    have h4':(kd == 4)=false:=by simp [h4]
    have h5':(kd == 5)=false:=by simp [h5]
    by_cases hb0:N.bn=0
    ·have hb0':(N.bn:Int)=0:=by omega
     have kQ:((wc.setCell ⟨w1.heap.size,0,none⟩ (.int .i64 kd)).setCell ⟨w1.heap.size,1,none⟩ (.int .i64 0)).heap[w1.heap.size]? = some (.cells #[.int .i64 kd,.int .i64 0] 123):=zac (K:=fun V=>V.heap[w1.heap.size]? = some (.cells #[.int .i64 kd,.int .i64 0] 123)) kE _ _ (fun _ k _=>k);have gQ:wc.grownBy ((wc.setCell ⟨w1.heap.size,0,none⟩ (.int .i64 kd)).setCell ⟨w1.heap.size,1,none⟩ (.int .i64 0)) (some w1.heap.size):=zac (K:=fun V=>wc.grownBy V (some w1.heap.size)) kE _ _ (fun _ _ k=>k);have HW:=hide (wn.madeAt ((Below.refl w.heap.size _).grown gQ wn.grown.size (fun k e=>by cases e; exact HX.out)) hlt (Nat.le_refl _));have r0:(wc.setCell ⟨w1.heap.size,0,none⟩ (.int .i64 kd)).cell? ⟨w1.heap.size,0,none⟩=some (.int .i64 kd):=World.cell?_setCell_same' _ _ _ (by rw [t0]; rfl);have r1:=(zJ kQ).2;clear kQ gQ;go_wp2;exact bodyPost_ret (v:=.agg #[.int .i64 kd,.int .i64 0]) (by simp [results,Tryz.results77,go_sem, *]) rfl ⟨_,_,rfl,HW.out⟩
    ·have hb0':¬(N.bn:Int)=0:=by omega
     (go_wp2_with fail);refine (zy C a0 l0 c0 z0 (N.bn:Int) _ wn.cur (by have:=HBB.out; omega)).mono ?_;rintro e wz ⟨i,rfl,-,-,-,wt⟩;have kN:=ze kN wt.grown (fun j e=>by cases e; exact HCN.out);have kE:=ze kE wt.grown (fun j e=>by cases e; exact HCE.out);have wn:=wn.trans wt;clear wt x0 x1 x2 t0 t1 f0 f1;generalize wz=wc at *;obtain ⟨x0,x1,x2⟩:=zd kN;obtain ⟨t0,t1⟩:=zJ kE;have f0:=zi kE 0;have f1:=zi kE 1;have kQ:((wc.setCell ⟨w1.heap.size,0,none⟩ (.int .i64 kd)).setCell ⟨w1.heap.size,1,none⟩ (.int .i64 i)).heap[w1.heap.size]? = some (.cells #[.int .i64 kd,.int .i64 i] 123):=zac (K:=fun V=>V.heap[w1.heap.size]? = some (.cells #[.int .i64 kd,.int .i64 i] 123)) kE _ _ (fun _ k _=>k);have gQ:wc.grownBy ((wc.setCell ⟨w1.heap.size,0,none⟩ (.int .i64 kd)).setCell ⟨w1.heap.size,1,none⟩ (.int .i64 i)) (some w1.heap.size):=zac (K:=fun V=>wc.grownBy V (some w1.heap.size)) kE _ _ (fun _ _ k=>k);have HW:=hide (wn.madeAt ((Below.refl w.heap.size _).grown gQ wn.grown.size (fun k e=>by cases e; exact HX.out)) hlt (Nat.le_refl _));have r0:(wc.setCell ⟨w1.heap.size,0,none⟩ (.int .i64 kd)).cell? ⟨w1.heap.size,0,none⟩=some (.int .i64 kd):=World.cell?_setCell_same' _ _ _ (by rw [t0]; rfl);have r1:=(zJ kQ).2;clear kQ gQ;go_wp2;exact bodyPost_ret (v:=.agg #[.int .i64 kd,.int .i64 i]) (by simp [results,Tryz.results77,go_sem, *]) rfl ⟨_,_,rfl,HW.out⟩
  ·(go_upto_region 2 with fail);clear x0 x1 x2 t0 t1 f0 f1;have vv:Below wc.heap.size wc wc.drew:=zr (Below.refl _ _);refine wp_region_held_drew (S:=(fun W=>zcc W w.heap.size 2 (.slice N.sa N.sn N.sc))) (by kernel_rfl) ((by first | exact (zd kN).2.2 | exact (zd (za kN vv)).2.2)) (fun hHeld => ?_);refine kK 0 ?_;refine kK 3 ?_;refine kK 4 ?_;refine kK 5 ?_;refine kK 6 ?_;refine kR 1 fun K hK => ?_
   go_simp;clear hHeld vv;generalize hwa:wc.alloc (Obj.cells #[.int .i64 2,.int .i64 2,.int .i64 2,.int .i64 2,.int .i64 3] 3)=wa;have ba:=zb hwa;have ka:=zk hwa;have hCa:C < wc.heap.size:=wn.cur.lt;have kN:=za kN ba;have kE:=za kE ba;have wn:=wn.made ba;have vv:Below wa.heap.size wa wa.drew:=zr (Below.refl _ _);have kN:=za kN vv;have kE:=za kE vv;have ka:=za ka vv;have wn:=wn.made vv;clear vv ba;generalize wa.drew=wd at *;(go_wp2_with fail);refine kO hK ((by first | exact (zd kN).2.2 | exact (zd (za kN vv)).2.2)) fun hHeld => ?_
   clear hK K;refine kR 2 fun K hK => ?_
   go_simp;clear hHeld;refine (zb6 C a0 l0 c0 z0 [2,2,2,2,3] _ _ _ wn.cur hCa ka rfl (by simp) (by simp)).mono ?_;rintro e wz ⟨kd,-,rfl,wt⟩;have kN:=ze kN wt.grown (fun j e=>by cases e; exact HCN.out);have kE:=ze kE wt.grown (fun j e=>by cases e; exact HCE.out);have wn:=wn.trans wt;clear wt ka hCa;generalize wz=wc2 at *;(go_wp2_with fail);refine kO hK ((by first | exact (zd kN).2.2 | exact (zd (za kN vv)).2.2)) fun hHeld => ?_
   clear hK K;refine kR 7 fun K hK => ?_
   go_simp;clear hHeld;refine (zy C a0 l0 c0 z0 (N.sn:Int) _ wn.cur (by have:=HSN.out; omega)).mono ?_;rintro e wz ⟨i,rfl,-,-,-,wt⟩;have kN:=ze kN wt.grown (fun j e=>by cases e; exact HCN.out);have kE:=ze kE wt.grown (fun j e=>by cases e; exact HCE.out);have wn:=wn.trans wt;clear wt;generalize wz=wc3 at *;(go_wp2_with fail);refine kO hK ((by first | exact (zd kN).2.2 | exact (zd (za kN vv)).2.2)) fun hHeld => ?_
   clear hK K;refine kK 8 ?_;refine kR 9 fun K hK => ?_
   clear hHeld;obtain ⟨t0,t1⟩:=zJ kE;have f0:=zi kE 0;have f1:=zi kE 1;go_simp;refine zac (K:=K _) kE _ _ (fun wq kQ gQ => ?_);have HW:=hide (wn.madeAt ((Below.refl w.heap.size _).grown gQ wn.grown.size (fun k e=>by cases e; exact HX.out)) hlt (Nat.le_refl _));have kN:=ze kN gQ (fun j e=>by cases e; exact HNE.out);refine kO hK ((by first | exact (zd kN).2.2 | exact (zd (za kN vv)).2.2)) fun hHeld => ?_
   clear hK K;refine wpAnyH_done (by kernel_rfl) ?_ _;obtain ⟨r0,r1⟩:=zJ kQ;clear hHeld gQ t0 t1 f0 f1;go_wp2;exact bodyPost_ret (v:=.agg #[.int .i64 kd,.int .i64 i]) (by simp [results,Tryz.results77,go_sem, *]) rfl ⟨_,_,rfl,HW.out⟩
 ·go_enter Tryz.func77,Tryz.ntmps77;(go_wp2_with fail);clear hw1 hw2;generalize hwa:wc.alloc (Obj.cells #[.int .i64 1,.int .i64 1,.int .i64 1,.int .i64 1,.int .i64 4,.int .i64 5,.int .i64 6] 3)=wa;have ba:=zb hwa;have ka:=zk hwa;have hCa:C < wc.heap.size:=wn.cur.lt;have kN:=za kN ba;have kE:=za kE ba;have wn:=wn.made ba;(go_wp2_with fail);refine (zb6 C a0 l0 c0 z0 [1,1,1,1,4,5,6] _ _ _ wn.cur hCa ka rfl (by simp) (by simp)).mono ?_;rintro e wz ⟨kd,-,rfl,wt⟩;have kN:=ze kN wt.grown (fun j e=>by cases e; exact HCN.out);have kE:=ze kE wt.grown (fun j e=>by cases e; exact HCE.out);have wn:=wn.trans wt;clear wt x0 x1 x2 t0 t1 f0 f1;generalize wz=wc at *;obtain ⟨x0,x1,x2⟩:=zd kN;obtain ⟨t0,t1⟩:=zJ kE;have f0:=zi kE 0;have f1:=zi kE 1;clear ka hwa ba hCa;by_cases h45:kd=4∨kd=5
  ·have hcut:True:=trivial;by_cases hl0:N.ln=0
   ·have hl0':((N.ln:Int) == 0)=true:=by simp [hl0]
    rcases h45 with rfl | rfl
    ·have kQ:((wc.setCell ⟨w1.heap.size,0,none⟩ (.int .i64 6)).setCell ⟨w1.heap.size,1,none⟩ (.int .i64 0)).heap[w1.heap.size]? = some (.cells #[.int .i64 6,.int .i64 0] 123):=zac (K:=fun V=>V.heap[w1.heap.size]? = some (.cells #[.int .i64 6,.int .i64 0] 123)) kE _ _ (fun _ k _=>k);have gQ:wc.grownBy ((wc.setCell ⟨w1.heap.size,0,none⟩ (.int .i64 6)).setCell ⟨w1.heap.size,1,none⟩ (.int .i64 0)) (some w1.heap.size):=zac (K:=fun V=>wc.grownBy V (some w1.heap.size)) kE _ _ (fun _ _ k=>k);have HW:=hide (wn.madeAt ((Below.refl w.heap.size _).grown gQ wn.grown.size (fun k e=>by cases e; exact HX.out)) hlt (Nat.le_refl _));have r0:(wc.setCell ⟨w1.heap.size,0,none⟩ (.int .i64 6)).cell? ⟨w1.heap.size,0,none⟩=some (.int .i64 6):=World.cell?_setCell_same' _ _ _ (by rw [t0]; rfl);have r1:=(zJ kQ).2;clear kQ gQ;go_wp2;exact bodyPost_ret (v:=.agg #[.int .i64 6,.int .i64 0]) (by simp [results,Tryz.results77,go_sem, *]) rfl ⟨_,_,rfl,HW.out⟩
    ·have kQ:((wc.setCell ⟨w1.heap.size,0,none⟩ (.int .i64 6)).setCell ⟨w1.heap.size,1,none⟩ (.int .i64 0)).heap[w1.heap.size]? = some (.cells #[.int .i64 6,.int .i64 0] 123):=zac (K:=fun V=>V.heap[w1.heap.size]? = some (.cells #[.int .i64 6,.int .i64 0] 123)) kE _ _ (fun _ k _=>k);have gQ:wc.grownBy ((wc.setCell ⟨w1.heap.size,0,none⟩ (.int .i64 6)).setCell ⟨w1.heap.size,1,none⟩ (.int .i64 0)) (some w1.heap.size):=zac (K:=fun V=>wc.grownBy V (some w1.heap.size)) kE _ _ (fun _ _ k=>k);have HW:=hide (wn.madeAt ((Below.refl w.heap.size _).grown gQ wn.grown.size (fun k e=>by cases e; exact HX.out)) hlt (Nat.le_refl _));have r0:(wc.setCell ⟨w1.heap.size,0,none⟩ (.int .i64 6)).cell? ⟨w1.heap.size,0,none⟩=some (.int .i64 6):=World.cell?_setCell_same' _ _ _ (by rw [t0]; rfl);have r1:=(zJ kQ).2;clear kQ gQ;go_wp2;exact bodyPost_ret (v:=.agg #[.int .i64 6,.int .i64 0]) (by simp [results,Tryz.results77,go_sem, *]) rfl ⟨_,_,rfl,HW.out⟩
   ·have hl0':¬(N.ln:Int)=0:=by omega
    rcases h45 with rfl | rfl
    ·(go_wp2_with fail);refine (zy C a0 l0 c0 z0 (N.ln:Int) _ wn.cur (by have:=HLL.out; omega)).mono ?_;rintro e wz ⟨i,rfl,-,-,-,wt⟩;have kN:=ze kN wt.grown (fun j e=>by cases e; exact HCN.out);have kE:=ze kE wt.grown (fun j e=>by cases e; exact HCE.out);have wn:=wn.trans wt;clear wt x0 x1 x2 t0 t1 f0 f1;generalize wz=wc at *;obtain ⟨x0,x1,x2⟩:=zd kN;obtain ⟨t0,t1⟩:=zJ kE;have f0:=zi kE 0;have f1:=zi kE 1;have kQ:((wc.setCell ⟨w1.heap.size,0,none⟩ (.int .i64 4)).setCell ⟨w1.heap.size,1,none⟩ (.int .i64 i)).heap[w1.heap.size]? = some (.cells #[.int .i64 4,.int .i64 i] 123):=zac (K:=fun V=>V.heap[w1.heap.size]? = some (.cells #[.int .i64 4,.int .i64 i] 123)) kE _ _ (fun _ k _=>k);have gQ:wc.grownBy ((wc.setCell ⟨w1.heap.size,0,none⟩ (.int .i64 4)).setCell ⟨w1.heap.size,1,none⟩ (.int .i64 i)) (some w1.heap.size):=zac (K:=fun V=>wc.grownBy V (some w1.heap.size)) kE _ _ (fun _ _ k=>k);have HW:=hide (wn.madeAt ((Below.refl w.heap.size _).grown gQ wn.grown.size (fun k e=>by cases e; exact HX.out)) hlt (Nat.le_refl _));have r0:(wc.setCell ⟨w1.heap.size,0,none⟩ (.int .i64 4)).cell? ⟨w1.heap.size,0,none⟩=some (.int .i64 4):=World.cell?_setCell_same' _ _ _ (by rw [t0]; rfl);have r1:=(zJ kQ).2;clear kQ gQ;go_wp2;exact bodyPost_ret (v:=.agg #[.int .i64 4,.int .i64 i]) (by simp [results,Tryz.results77,go_sem, *]) rfl ⟨_,_,rfl,HW.out⟩
    ·(go_wp2_with fail);refine (zy C a0 l0 c0 z0 (N.ln:Int) _ wn.cur (by have:=HLL.out; omega)).mono ?_;rintro e wz ⟨i,rfl,-,-,-,wt⟩;have kN:=ze kN wt.grown (fun j e=>by cases e; exact HCN.out);have kE:=ze kE wt.grown (fun j e=>by cases e; exact HCE.out);have wn:=wn.trans wt;clear wt x0 x1 x2 t0 t1 f0 f1;generalize wz=wc at *;obtain ⟨x0,x1,x2⟩:=zd kN;obtain ⟨t0,t1⟩:=zJ kE;have f0:=zi kE 0;have f1:=zi kE 1;have kQ:((wc.setCell ⟨w1.heap.size,0,none⟩ (.int .i64 5)).setCell ⟨w1.heap.size,1,none⟩ (.int .i64 i)).heap[w1.heap.size]? = some (.cells #[.int .i64 5,.int .i64 i] 123):=zac (K:=fun V=>V.heap[w1.heap.size]? = some (.cells #[.int .i64 5,.int .i64 i] 123)) kE _ _ (fun _ k _=>k);have gQ:wc.grownBy ((wc.setCell ⟨w1.heap.size,0,none⟩ (.int .i64 5)).setCell ⟨w1.heap.size,1,none⟩ (.int .i64 i)) (some w1.heap.size):=zac (K:=fun V=>wc.grownBy V (some w1.heap.size)) kE _ _ (fun _ _ k=>k);have HW:=hide (wn.madeAt ((Below.refl w.heap.size _).grown gQ wn.grown.size (fun k e=>by cases e; exact HX.out)) hlt (Nat.le_refl _));have r0:(wc.setCell ⟨w1.heap.size,0,none⟩ (.int .i64 5)).cell? ⟨w1.heap.size,0,none⟩=some (.int .i64 5):=World.cell?_setCell_same' _ _ _ (by rw [t0]; rfl);have r1:=(zJ kQ).2;clear kQ gQ;go_wp2;exact bodyPost_ret (v:=.agg #[.int .i64 5,.int .i64 i]) (by simp [results,Tryz.results77,go_sem, *]) rfl ⟨_,_,rfl,HW.out⟩
  ·have h4:¬kd=4:=fun e=>h45 (.inl e)
   have h5:¬kd=5:=fun e=>h45 (.inr e)
   have h4':(kd == 4)=false:=by simp [h4]
   have h5':(kd == 5)=false:=by simp [h5]
   by_cases hb0:N.bn=0
   ·have hb0':(N.bn:Int)=0:=by omega
    have kQ:((wc.setCell ⟨w1.heap.size,0,none⟩ (.int .i64 kd)).setCell ⟨w1.heap.size,1,none⟩ (.int .i64 0)).heap[w1.heap.size]? = some (.cells #[.int .i64 kd,.int .i64 0] 123):=zac (K:=fun V=>V.heap[w1.heap.size]? = some (.cells #[.int .i64 kd,.int .i64 0] 123)) kE _ _ (fun _ k _=>k);have gQ:wc.grownBy ((wc.setCell ⟨w1.heap.size,0,none⟩ (.int .i64 kd)).setCell ⟨w1.heap.size,1,none⟩ (.int .i64 0)) (some w1.heap.size):=zac (K:=fun V=>wc.grownBy V (some w1.heap.size)) kE _ _ (fun _ _ k=>k);have HW:=hide (wn.madeAt ((Below.refl w.heap.size _).grown gQ wn.grown.size (fun k e=>by cases e; exact HX.out)) hlt (Nat.le_refl _));have r0:(wc.setCell ⟨w1.heap.size,0,none⟩ (.int .i64 kd)).cell? ⟨w1.heap.size,0,none⟩=some (.int .i64 kd):=World.cell?_setCell_same' _ _ _ (by rw [t0]; rfl);have r1:=(zJ kQ).2;clear kQ gQ;go_wp2;exact bodyPost_ret (v:=.agg #[.int .i64 kd,.int .i64 0]) (by simp [results,Tryz.results77,go_sem, *]) rfl ⟨_,_,rfl,HW.out⟩
   ·have hb0':¬(N.bn:Int)=0:=by omega
    (go_wp2_with fail);refine (zy C a0 l0 c0 z0 (N.bn:Int) _ wn.cur (by have:=HBB.out; omega)).mono ?_;rintro e wz ⟨i,rfl,-,-,-,wt⟩;have kN:=ze kN wt.grown (fun j e=>by cases e; exact HCN.out);have kE:=ze kE wt.grown (fun j e=>by cases e; exact HCE.out);have wn:=wn.trans wt;clear wt x0 x1 x2 t0 t1 f0 f1;generalize wz=wc at *;obtain ⟨x0,x1,x2⟩:=zd kN;obtain ⟨t0,t1⟩:=zJ kE;have f0:=zi kE 0;have f1:=zi kE 1;have kQ:((wc.setCell ⟨w1.heap.size,0,none⟩ (.int .i64 kd)).setCell ⟨w1.heap.size,1,none⟩ (.int .i64 i)).heap[w1.heap.size]? = some (.cells #[.int .i64 kd,.int .i64 i] 123):=zac (K:=fun V=>V.heap[w1.heap.size]? = some (.cells #[.int .i64 kd,.int .i64 i] 123)) kE _ _ (fun _ k _=>k);have gQ:wc.grownBy ((wc.setCell ⟨w1.heap.size,0,none⟩ (.int .i64 kd)).setCell ⟨w1.heap.size,1,none⟩ (.int .i64 i)) (some w1.heap.size):=zac (K:=fun V=>wc.grownBy V (some w1.heap.size)) kE _ _ (fun _ _ k=>k);have HW:=hide (wn.madeAt ((Below.refl w.heap.size _).grown gQ wn.grown.size (fun k e=>by cases e; exact HX.out)) hlt (Nat.le_refl _));have r0:(wc.setCell ⟨w1.heap.size,0,none⟩ (.int .i64 kd)).cell? ⟨w1.heap.size,0,none⟩=some (.int .i64 kd):=World.cell?_setCell_same' _ _ _ (by rw [t0]; rfl);have r1:=(zJ kQ).2;clear kQ gQ;go_wp2;exact bodyPost_ret (v:=.agg #[.int .i64 kd,.int .i64 i]) (by simp [results,Tryz.results77,go_sem, *]) rfl ⟨_,_,rfl,HW.out⟩

def newPt:PT:=⟨false,1,false,⟨0,0,0,0,0⟩⟩
def ze8:BR:=⟨0,ByteArray.empty,[],[],⟨[],[]⟩,0,0,0,0,0⟩
def zP (id:Int) (m:Nat):BR:=⟨id,ByteArray.empty,List.replicate m newPt,[],zbr m,0,0,0,0,0⟩

theorem BrOwn.boxed11 {w:World} {base:Nat} {a:Option Addr} {n c:Nat} {fa:Option Addr} {fn fc:Nat} {ra:Option Addr} {rn rc:Nat} {oa:Option Addr} {on oc:Nat} {B:BR} (h:BrOwn w base a n c fa fn fc ra rn rc oa on oc B) {X:Nat} {cs:Array Value} (hX:w.heap[X]? = some (.cells cs 61)) (u0 u1 u2 u3 u4 u5 u6 u7 u8 u9 u10:Value):BrOwn (((((((((((w.setCell ⟨X,0,none⟩ u0).setCell ⟨X,1,none⟩ u1).setCell ⟨X,2,none⟩ u2).setCell ⟨X,3,none⟩ u3).setCell ⟨X,4,none⟩ u4).setCell ⟨X,5,none⟩ u5).setCell ⟨X,6,none⟩ u6).setCell ⟨X,7,none⟩ u7).setCell ⟨X,8,none⟩ u8).setCell ⟨X,9,none⟩ u9).setCell ⟨X,10,none⟩ u10) base a n c fa fn fc ra rn rc oa on oc B :=
 (BrOwn.boxed (BrOwn.boxed (BrOwn.boxed (BrOwn.boxed (BrOwn.boxed (BrOwn.boxed (BrOwn.boxed (BrOwn.boxed (BrOwn.boxed (BrOwn.boxed (BrOwn.boxed h hX 0 u0) (box11 hX 0 u0) 1 u1) (box11 (box11 hX 0 u0) 1 u1) 2 u2) (box11 (box11 (box11 hX 0 u0) 1 u1) 2 u2) 3 u3) (box11 (box11 (box11 (box11 hX 0 u0) 1 u1) 2 u2) 3 u3) 4 u4) (box11 (box11 (box11 (box11 (box11 hX 0 u0) 1 u1) 2 u2) 3 u3) 4 u4) 5 u5) (box11 (box11 (box11 (box11 (box11 (box11 hX 0 u0) 1 u1) 2 u2) 3 u3) 4 u4) 5 u5) 6 u6) (box11 (box11 (box11 (box11 (box11 (box11 (box11 hX 0 u0) 1 u1) 2 u2) 3 u3) 4 u4) 5 u5) 6 u6) 7 u7) (box11 (box11 (box11 (box11 (box11 (box11 (box11 (box11 hX 0 u0) 1 u1) 2 u2) 3 u3) 4 u4) 5 u5) 6 u6) 7 u7) 8 u8) (box11 (box11 (box11 (box11 (box11 (box11 (box11 (box11 (box11 hX 0 u0) 1 u1) 2 u2) 3 u3) 4 u4) 5 u5) 6 u6) 7 u7) 8 u8) 9 u9) (box11 (box11 (box11 (box11 (box11 (box11 (box11 (box11 (box11 (box11 hX 0 u0) 1 u1) 2 u2) 3 u3) 4 u4) 5 u5) 6 u6) 7 u7) 8 u8) 9 u9) 10 u10)

theorem zQ {K:Nat} {a w:World} (h:Below K a w) {g:Nat} (hB:K≤g) (u0 u1 u2 u3 u4 u5 u6 u7 u8 u9 u10:Value):Below K a (((((((((((w.setCell ⟨g,0,none⟩ u0).setCell ⟨g,1,none⟩ u1).setCell ⟨g,2,none⟩ u2).setCell ⟨g,3,none⟩ u3).setCell ⟨g,4,none⟩ u4).setCell ⟨g,5,none⟩ u5).setCell ⟨g,6,none⟩ u6).setCell ⟨g,7,none⟩ u7).setCell ⟨g,8,none⟩ u8).setCell ⟨g,9,none⟩ u9).setCell ⟨g,10,none⟩ u10) :=
 (zj (zj (zj (zj (zj (zj (zj (zj (zj (zj (zj h hB 0 u0) hB 1 u1) hB 2 u2) hB 3 u3) hB 4 u4) hB 5 u5) hB 6 u6) hB 7 u7) hB 8 u8) hB 9 u9) hB 10 u10)

theorem zc8 (w:World) (base:Nat):BrOwn w base none 0 0 none 0 0 none 0 0 none 0 0 ze8:=⟨World.ownsRow_nil _ _ _ _,World.ownsRow_nil _ _ _ _,zgl w base⟩

theorem zb7 (id:Int) (m:Nat) (w:World) (hid:(decide (1≤id) && decide (id≤99))=true) (hm:(decide (1≤(m:Int)) && decide ((m:Int)≤6))=true) :
  Calls Tryz.prog 32 #[.int .i64 id,.int .i64 m] w fun e w'=>∃(a:Option Addr) (c:Nat) (ra:Option Addr) (rn rc:Nat) (oa:Option Addr) (on oc:Nat),e=.returned (.agg #[.int .i64 id,.string ⟨#[]⟩,.slice a m c,.slice none 0 0,.slice ra rn rc,.slice oa on oc,.int .i64 0,.int .i64 0,.int .i64 0,.int .i64 0,.int .i64 0])∧BrOwn w' w.heap.size a m c none 0 0 ra rn rc oa on oc (zP id m)∧Below w.heap.size w w':=by
 have h6:m≤6:=by simp at hm; omega
 have HID:=hide hid;have HM:=hide hm;clear hid hm;generalize hw1:w.alloc (Obj.cells #[.int .i64 0,.string ⟨#[]⟩,.slice none 0 0,.slice none 0 0,.slice none 0 0,.slice none 0 0,.int .i64 0,.int .i64 0,.int .i64 0,.int .i64 0,.int .i64 0] 61)=w1;have b1:=zb hw1;have kJ:=zk hw1;go_enter Tryz.func32,Tryz.ntmps32;go_wp2_with fail
 refine (zh id 1 99 _).mono ?_;rintro r wx ⟨rfl,ew⟩;obtain rfl:=ew.symm;rw [HID.out];go_wp2_with fail
 refine (zh (m:Int) 1 6 _).mono ?_;rintro r wx ⟨rfl,ew⟩;obtain rfl:=ew.symm;rw [HM.out];go_wp2_with fail
 refine (zcG (m:Int) _).mono ?_;rintro r w2 ⟨ra,rn,rc,oa,on,oc,rfl,hv,hb2⟩;have hv:=hv.lt (base':=w.heap.size) b1.size;have b2:=zc b1 hb2;have kJ:=za kJ hb2;clear hw1 hb2 b1;go_upto_region 4 with fail
 generalize hw3:w2.alloc (Obj.cells #[.int .i64 id,.string ⟨#[]⟩,.slice none 0 0,.slice none 0 0,.slice ra rn rc,.slice oa on oc,.int .i64 0,.int .i64 0,.int .i64 0,.int .i64 0,.int .i64 0] 61)=w3;have b3:=zb hw3;have kX:=zk hw3;have kJ:=za kJ b3;have o3:BrOwn w3 w.heap.size none 0 0 none 0 0 ra rn rc oa on oc { zP id m with ports:=List.replicate 0 newPt }:=⟨World.ownsRow_nil _ _ _ _,World.ownsRow_nil _ _ _ _,hv.below b3⟩;have HX:Hid (w.heap.size < w2.heap.size):=hide (Array.getElem?_eq_some_iff.1 (show w2.heap[w.heap.size]? = some (.cells #[.int .i64 0,.string ⟨#[]⟩,.slice none 0 0,.slice none 0 0,.slice none 0 0,.slice none 0 0,.int .i64 0,.int .i64 0,.int .i64 0,.int .i64 0,.int .i64 0] 61) from by assumption)).1;have b3:=zc b2 b3;clear hw3 b2 hv;go_wp2_with fail
 go_loopw [6] (fun i wr=>∃(k:Nat) (a:Option Addr) (c:Nat),k≤m∧i=.int .i64 k∧wr.heap[w.heap.size]? = some (.cells #[.int .i64 0,.string ⟨#[]⟩,.slice none 0 0,.slice none 0 0,.slice none 0 0,.slice none 0 0,.int .i64 0,.int .i64 0,.int .i64 0,.int .i64 0,.int .i64 0] 61)∧wr.heap[w2.heap.size]? = some (.cells #[.int .i64 id,.string ⟨#[]⟩,.slice a k c,.slice none 0 0,.slice ra rn rc,.slice oa on oc,.int .i64 0,.int .i64 0,.int .i64 0,.int .i64 0,.int .i64 0] 61)∧BrOwn wr w.heap.size a k c none 0 0 ra rn rc oa on oc { zP id m with ports:=List.replicate k newPt }∧Below w.heap.size w wr) (fun i _=>m - (intOf i).toNat)
 case atStart=>exact ⟨0,none,0,Nat.zero_le _,rfl,kJ,kX,o3,b3⟩
 case round =>
  obtain ⟨k,a,c,hk,rfl,kJ,kX,o,hb⟩:=hrel;clear o3 b3;obtain ⟨x0,x1,x2,x3,x4,x5,x6,x7,x8,x9,x10⟩:=zp kX;by_cases hlt:k < m
  ·have b9:=zg wr (.cells #[.bool false,.int .i64 1,.bool false,.int .i64 0,.int .i64 0,.int .i64 0,.int .i64 0,.int .i64 0] 79);have o9:=o.below b9;have p9:=o9.ports;have kX9:=za kX b9;have kR9:=za kJ b9;have HB9:=hide (zc hb b9);have hbase9:w.heap.size≤(wr.alloc (.cells #[.bool false,.int .i64 1,.bool false,.int .i64 0,.int .i64 0,.int .i64 0,.int .i64 0,.int .i64 0] 79)).heap.size:=HB9.out.size;have HO9:=hide o9;have KX9:=hide kX9;have KR9:=hide kR9;clear hb b9 o9 kX9 kR9 o kX kJ;go_wp2_with (at_builtin; refine zci _ rfl _ _ rfl w.heap.size _ k (List.replicate k newPt) rfl p9 _ 1 1 [newPt] rfl (zax ptF _ newPt _ _ rfl) (by omega) hbase9 ?_)
   rintro a' c' wz oz - gz bz;have kz:=ze KX9.out gz (fun i e=>zN HO9.out.ports KX9.out (by decide) i e);have rz:=ze KR9.out gz (fun i e=>zN HO9.out.ports KR9.out (by decide) i e);have hrep:List.replicate k newPt++[newPt]=List.replicate (k+1) newPt:=by rw [List.replicate_succ']
   rw [hrep] at oz;have on:=HO9.out.newPorts gz oz;have HON:=hide (BrOwn.boxed on kz 2 (.slice a' (k+1) c'));have HKX:=hide (box11 kz 2 (.slice a' (k+1) c'));have HKR:Hid ((wz.setCell ⟨w2.heap.size,2,none⟩ (.slice a' (k+1) c')).heap[w.heap.size]? = some (.cells #[.int .i64 0,.string ⟨#[]⟩,.slice none 0 0,.slice none 0 0,.slice none 0 0,.slice none 0 0,.int .i64 0,.int .i64 0,.int .i64 0,.int .i64 0,.int .i64 0] 61)):=hide (zam rz (Nat.ne_of_lt HX.out));have HBZ:=hide (zj (g:=w2.heap.size) (HB9.out.trans bz) (Nat.le_of_lt HX.out) 2 (.slice a' (k+1) c'));have fz:=zi kz 2;obtain ⟨-,-,y2,-⟩:=zp kz;clear x0 x1 x2 x3 x4 x5 x6 x7 x8 x9 x10 kz rz gz bz oz on p9 hbase9;go_wp2
   go_roundw
   case rel=>exact ⟨k+1,a',c',by omega,by go_num,HKR.out,HKX.out,HON.out,HBZ.out⟩
   case measure=>simp [intOf]; omega
  ·have hkm:k=m:=by omega
   subst hkm;obtain ⟨z0,z1,z2,z3,z4,z5,z6,z7,z8,z9,z10⟩:=zp kJ;have f0:=zi kJ;have ne1:¬w2.heap.size=w.heap.size:=by have:=HX.out; omega
   have ne2:¬w.heap.size=w2.heap.size:=by have:=HX.out; omega
   have HO:=hide (o.boxed11 kJ (.int .i64 id) (.string ⟨#[]⟩) (.slice a k c) (.slice none 0 0) (.slice ra rn rc) (.slice oa on oc) (.int .i64 0) (.int .i64 0) (.int .i64 0) (.int .i64 0) (.int .i64 0));have HB:=hide (zQ hb (Nat.le_refl w.heap.size) (.int .i64 id) (.string ⟨#[]⟩) (.slice a k c) (.slice none 0 0) (.slice ra rn rc) (.slice oa on oc) (.int .i64 0) (.int .i64 0) (.int .i64 0) (.int .i64 0) (.int .i64 0));clear o hb kX kJ;go_wp2;exact bodyPost_ret (v:=.agg #[.int .i64 id,.string ⟨#[]⟩,.slice a k c,.slice none 0 0,.slice ra rn rc,.slice oa on oc,.int .i64 0,.int .i64 0,.int .i64 0,.int .i64 0,.int .i64 0]) (by simp [results,Tryz.results32,go_sem, *]) rfl ⟨a,c,ra,rn,rc,oa,on,oc,rfl,HO.out,HB.out⟩

structure BcSt (w wr:World) (R X:Nat) (cs:Array Value):Prop where
 box:wr.heap[X]? = some (.cells cs 61)
 res:wr.heap[R]? = some (.cells #[.int .i64 0,.string ⟨#[]⟩,.slice none 0 0,.slice none 0 0,.slice none 0 0,.slice none 0 0,.int .i64 0,.int .i64 0,.int .i64 0,.int .i64 0,.int .i64 0] 61)
 below:Below w.heap.size w wr
 hX:w.heap.size≤X
 hR:w.heap.size≤R
 ne:R≠X

theorem BcSt.later {w wr wx:World} {R X:Nat} {cs:Array Value} (h:BcSt w wr R X cs) (hb:Below wr.heap.size wr wx):BcSt w wx R X cs :=
 ⟨za h.box hb,za h.res hb,zc h.below hb,h.hX,h.hR,h.ne⟩

theorem BcSt.put {w wr:World} {R X:Nat} {cs:Array Value} (h:BcSt w wr R X cs) (j:Nat) (u:Value) {cs':Array Value} (he:cs.setIfInBounds j u=cs'):BcSt w (wr.setCell ⟨X,j,none⟩ u) R X cs' :=
 ⟨by rw [← he]; exact box11 h.box j u,zam h.res h.ne,zj h.below h.hX j u,h.hX,h.hR,h.ne⟩

theorem BcSt.grown {w wr wx:World} {R X:Nat} {cs:Array Value} (h:BcSt w wr R X cs) {base k:Nat} {e:TypeId} {v:Value} {n:Nat} {xs:List Value} (ho:wr.ownsRow base e k v n xs) (hne:(e:Nat)≠61) (hg:wr.grownBy wx v.ownBlock) (hb:Below w.heap.size wr wx):BcSt w wx R X cs :=
 ⟨ze h.box hg (fun i e=>zN ho h.box hne i e),ze h.res hg (fun i e=>zN ho h.res hne i e),h.below.trans hb,h.hX,h.hR,h.ne⟩

theorem BcSt.stay {w wr:World} {R X:Nat} {cs:Array Value} (h:BcSt w wr R X cs) {base k:Nat} {e:TypeId} {v:Value} {n:Nat} {xs:List Value} (ho:wr.ownsRow base e k v n xs) (hne:(e:Nat)≠61) (j:Nat) (u:Value):(wr.setCell ⟨X,j,none⟩ u).ownsRow base e k v n xs :=
 zB ho (zm (rb:=X) j u) (zN ho h.box hne)

theorem BcSt.out {w wr:World} {R X:Nat} {cs:Array Value} (h:BcSt w wr R X cs) {base:Nat} {a:Option Addr} {n c:Nat} {fa:Option Addr} {fn fc:Nat} {ra:Option Addr} {rn rc:Nat} {oa:Option Addr} {on oc:Nat} {B:BR} (ho:BrOwn wr base a n c fa fn fc ra rn rc oa on oc B) (u0 u1 u2 u3 u4 u5 u6 u7 u8 u9 u10:Value):BrOwn (((((((((((wr.setCell ⟨R,0,none⟩ u0).setCell ⟨R,1,none⟩ u1).setCell ⟨R,2,none⟩ u2).setCell ⟨R,3,none⟩ u3).setCell ⟨R,4,none⟩ u4).setCell ⟨R,5,none⟩ u5).setCell ⟨R,6,none⟩ u6).setCell ⟨R,7,none⟩ u7).setCell ⟨R,8,none⟩ u8).setCell ⟨R,9,none⟩ u9).setCell ⟨R,10,none⟩ u10) base a n c fa fn fc ra rn rc oa on oc B∧Below w.heap.size w (((((((((((wr.setCell ⟨R,0,none⟩ u0).setCell ⟨R,1,none⟩ u1).setCell ⟨R,2,none⟩ u2).setCell ⟨R,3,none⟩ u3).setCell ⟨R,4,none⟩ u4).setCell ⟨R,5,none⟩ u5).setCell ⟨R,6,none⟩ u6).setCell ⟨R,7,none⟩ u7).setCell ⟨R,8,none⟩ u8).setCell ⟨R,9,none⟩ u9).setCell ⟨R,10,none⟩ u10) :=
 ⟨ho.boxed11 h.res u0 u1 u2 u3 u4 u5 u6 u7 u8 u9 u10,zQ h.below h.hR u0 u1 u2 u3 u4 u5 u6 u7 u8 u9 u10⟩

end Go.Proofs.YtkcoehmpnkdinaaGreat
