/-
  Packed: VecOk ImplIn VecStep PtOkI PtBest VecLess PtBestI.
-/
import Derived.Test.YtcpdkcdfnpcemaaGreatPRKW
import Derived.Test.YtcpdkcdfnpcemaaGreatPRK02
namespace Go.Proofs.YtcpdkcdfnpcemaaGreat
set_option maxRecDepth 100000
set_option maxHeartbeats 16000000
open Go.RowKit

theorem zds (n lo hi:Int) (h:lo≤hi):(n == cl n lo hi)=(decide (lo≤n) && decide (n≤hi)):=by
 unfold cl;rw [Bool.eq_iff_iff]
 simp
 omega

theorem zhn (R C H B P:Int):((R == cl R 1 99) && ((C == cl C 0 100000) && ((H == cl H 0 10) && ((B == cl B 1 99) && (P == cl P 0 7)))))=okVc R C H B P:=by
 rw [zhm,zds _ _ _ (by omega),zds _ _ _ (by omega),zds _ _ _ (by omega),zds _ _ _ (by omega),zds _ _ _ (by omega)]

theorem zaF (R C H B P:Int) (w:World) :
  Calls Tryz.prog 254 #[.agg #[.int .i64 R,.int .i64 C,.int .i64 H,.int .i64 B,.int .i64 P]] w fun e w'=>e=.returned (.bool (okVc R C H B P))∧Below w.heap.size w w':=by
 have k0:=zv w (.cells #[.int .i64 R,.int .i64 C,.int .i64 H,.int .i64 B,.int .i64 P] 111);have q0:=zh w (.cells #[.int .i64 R,.int .i64 C,.int .i64 H,.int .i64 B,.int .i64 P] 111);have he:∀W,(binOp .eql 111 (.agg #[.int .i64 R,.int .i64 C,.int .i64 H,.int .i64 B,.int .i64 P]) (.agg #[.int .i64 (cl R 1 99),.int .i64 (cl C 0 100000),.int .i64 (cl H 0 10),.int .i64 (cl B 1 99),.int .i64 (cl P 0 7)])).run Tryz.prog W=.ok (.bool (okVc R C H B P)) W:=fun W=>by rw [zfT,zhn]
 have hgd:Tryz.prog.eqGuardType Tryz.prog.depth 111=false:=by kernel_rfl
 generalize okVc R C H B P=Q at *;go_enter Tryz.func254,Tryz.ntmps254;go_wp2_with fail
 generalize (w.alloc (.cells #[.int .i64 R,.int .i64 C,.int .i64 H,.int .i64 B,.int .i64 P] 111))=wb at *;obtain ⟨⟨x0,x1,x2,x3,x4⟩,-⟩:=zt k0;have K0:=hide k0;clear k0
 go_region_held3 (fun W=>W.cell? ⟨w.heap.size,0,none⟩=some (.int .i64 R)∧W.cell? ⟨w.heap.size,1,none⟩=some (.int .i64 C)∧W.cell? ⟨w.heap.size,2,none⟩=some (.int .i64 H)∧W.cell? ⟨w.heap.size,3,none⟩=some (.int .i64 B)∧W.cell? ⟨w.heap.size,4,none⟩=some (.int .i64 P)) (first | assumption | exact (zt k1).1 | go_keep) (first
  | (go_at_call 276; refine (zfH R C H B P _).mono ?_; rintro e w1 ⟨rfl,hb1⟩; have k1:=ze K0.out (undrew hb1)))
 go_wp2;go_ret;exact ⟨rfl,zd q0 (undrew hb1)⟩

theorem zab (n lo hi:Int) (w:World):Calls Tryz.prog 64 #[.int .i64 n,.int .i64 lo,.int .i64 hi] w fun e w'=>e=.returned (.bool (decide (lo≤n) && decide (n≤hi)))∧w'=w:=by
 by_cases h1:lo≤n
 ·by_cases h2:n≤hi
  ·rw [decide_eq_true h1,decide_eq_true h2];go_enter Tryz.func64,Tryz.ntmps64;go_wp2;go_ret;exact ⟨rfl,rfl⟩
  ·rw [decide_eq_true h1,decide_eq_false h2];go_enter Tryz.func64,Tryz.ntmps64;go_wp2;go_ret;exact ⟨rfl,rfl⟩
 ·rw [decide_eq_false h1,Bool.false_and];go_enter Tryz.func64,Tryz.ntmps64;go_wp2;go_ret;exact ⟨rfl,rfl⟩

theorem zdG (R C H B P k:Int) (w:World) :
  Calls Tryz.prog 298 #[.agg #[.int .i64 R,.int .i64 C,.int .i64 H,.int .i64 B,.int .i64 P],.int .i64 k] w fun e w'=>e=.returned (.tuple #[if zbf R C H B P k=true then .agg #[.int .i64 R,.int .i64 (C+k),.int .i64 (H+1),.int .i64 B,.int .i64 P] else .agg #[.int .i64 R,.int .i64 C,.int .i64 H,.int .i64 B,.int .i64 P],.bool (zbf R C H B P k)])∧Below w.heap.size w w':=by
 cases t1:okVc R C H B P
 ·have e:zbf R C H B P k=false:=by unfold zbf; rw [t1]; rfl
  rw [e,if_neg (by simp)];have T1:=hide t1;clear e t1;go_enter Tryz.func298,Tryz.ntmps298;(go_wp2_with fail);refine (zaF R C H B P _).mono ?_;rintro e w1 ⟨rfl,hb1⟩;rw [T1.out];have q3:=zd (zbg w _ _ _) hb1;obtain ⟨k0,k1,k2⟩:=zbz hb1;obtain ⟨⟨x0,x1,x2,x3,x4⟩,f0,f1,f2,f3,f4⟩:=zt k0;obtain ⟨⟨y0,y1,y2,y3,y4⟩,g0,g1,g2,g3,g4⟩:=zt k1;have HB:=hide q3;have K1:=hide k1;have K2:=hide k2;have K0:=hide k0;clear hb1 k0 k1 k2 q3;go_wp2;exact bodyPost_ret (v:=.tuple #[.agg #[.int .i64 R,.int .i64 C,.int .i64 H,.int .i64 B,.int .i64 P],.bool false]) (by simp [results,Tryz.results298,go_sem, *]) rfl ⟨rfl,zZ HB.out (by omega) _ _ _ _ _⟩
 cases t2:(decide (1≤k) && decide (k≤1000))
 ·have e:zbf R C H B P k=false:=by unfold zbf; rw [t1,t2]; rfl
  rw [e,if_neg (by simp)];have T1:=hide t1;have T2:=hide t2;clear e t1 t2;go_enter Tryz.func298,Tryz.ntmps298;(go_wp2_with fail);refine (zaF R C H B P _).mono ?_;rintro e w1 ⟨rfl,hb1⟩;rw [T1.out];have q3:=zd (zbg w _ _ _) hb1;obtain ⟨k0,k1,k2⟩:=zbz hb1;obtain ⟨⟨x0,x1,x2,x3,x4⟩,f0,f1,f2,f3,f4⟩:=zt k0;obtain ⟨⟨y0,y1,y2,y3,y4⟩,g0,g1,g2,g3,g4⟩:=zt k1;have HB:=hide q3;have K1:=hide k1;have K2:=hide k2;have K0:=hide k0;clear hb1 k0 k1 k2 q3;(go_wp2_with fail);refine (zab k 1 1000 _).mono ?_;rintro e w2 ⟨rfl,rfl⟩;rw [T2.out];go_wp2;exact bodyPost_ret (v:=.tuple #[.agg #[.int .i64 R,.int .i64 C,.int .i64 H,.int .i64 B,.int .i64 P],.bool false]) (by simp [results,Tryz.results298,go_sem, *]) rfl ⟨rfl,zZ HB.out (by omega) _ _ _ _ _⟩
 obtain ⟨-,o2,o3,-,-⟩:=zec t1;have hk:1≤k∧k≤1000:=by simpa using t2
 have es:zbf R C H B P k=okVc R (C+k) (H+1) B P:=by unfold zbf; rw [t1,t2]; rfl
 rw [es];clear es;cases t3:okVc R (C+k) (H+1) B P
 ·rw [if_neg (by simp)];have T1:=hide t1;have T2:=hide t2;have T3:=hide t3;clear t1 t2 t3;go_enter Tryz.func298,Tryz.ntmps298;(go_wp2_with fail);refine (zaF R C H B P _).mono ?_;rintro e w1 ⟨rfl,hb1⟩;rw [T1.out];have q3:=zd (zbg w _ _ _) hb1;obtain ⟨k0,k1,k2⟩:=zbz hb1;obtain ⟨⟨x0,x1,x2,x3,x4⟩,f0,f1,f2,f3,f4⟩:=zt k0;obtain ⟨⟨y0,y1,y2,y3,y4⟩,g0,g1,g2,g3,g4⟩:=zt k1;have HB:=hide q3;have K1:=hide k1;have K2:=hide k2;have K0:=hide k0;clear hb1 k0 k1 k2 q3;(go_wp2_with fail);refine (zab k 1 1000 _).mono ?_;rintro e w2 ⟨rfl,rfl⟩;rw [T2.out];obtain ⟨⟨z0,z1,z2,z3,z4⟩,-⟩:=zt K2.out;(go_wp2_with fail);refine (zaF R (C+k) (H+1) B P _).mono ?_;rintro e w3 ⟨rfl,hb3⟩;rw [T3.out];clear x0 x1 x2 x3 x4 f0 f1 f2 f3 f4 y0 y1 y2 y3 y4 g0 g1 g2 g3 g4 z0 z1 z2 z3 z4;obtain ⟨⟨x0,x1,x2,x3,x4⟩,f0,f1,f2,f3,f4⟩:=zt (ze K0.out hb3);obtain ⟨⟨y0,y1,y2,y3,y4⟩,g0,g1,g2,g3,g4⟩:=zt (ze K1.out hb3);have HB:=hide (zd HB.out hb3);clear hb3;go_wp2;exact bodyPost_ret (v:=.tuple #[.agg #[.int .i64 R,.int .i64 C,.int .i64 H,.int .i64 B,.int .i64 P],.bool false]) (by simp [results,Tryz.results298,go_sem, *]) rfl ⟨rfl,zZ HB.out (by omega) _ _ _ _ _⟩
 ·rw [if_pos rfl];have T1:=hide t1;have T2:=hide t2;have T3:=hide t3;clear t1 t2 t3;go_enter Tryz.func298,Tryz.ntmps298;(go_wp2_with fail);refine (zaF R C H B P _).mono ?_;rintro e w1 ⟨rfl,hb1⟩;rw [T1.out];have q3:=zd (zbg w _ _ _) hb1;obtain ⟨k0,k1,k2⟩:=zbz hb1;obtain ⟨⟨x0,x1,x2,x3,x4⟩,f0,f1,f2,f3,f4⟩:=zt k0;obtain ⟨⟨y0,y1,y2,y3,y4⟩,g0,g1,g2,g3,g4⟩:=zt k1;have HB:=hide q3;have K1:=hide k1;have K2:=hide k2;have K0:=hide k0;clear hb1 k0 k1 k2 q3;(go_wp2_with fail);refine (zab k 1 1000 _).mono ?_;rintro e w2 ⟨rfl,rfl⟩;rw [T2.out];obtain ⟨⟨z0,z1,z2,z3,z4⟩,-⟩:=zt K2.out;(go_wp2_with fail);refine (zaF R (C+k) (H+1) B P _).mono ?_;rintro e w3 ⟨rfl,hb3⟩;rw [T3.out];clear x0 x1 x2 x3 x4 f0 f1 f2 f3 f4 y0 y1 y2 y3 y4 g0 g1 g2 g3 g4 z0 z1 z2 z3 z4;obtain ⟨⟨x0,x1,x2,x3,x4⟩,f0,f1,f2,f3,f4⟩:=zt (ze K2.out hb3);obtain ⟨⟨y0,y1,y2,y3,y4⟩,g0,g1,g2,g3,g4⟩:=zt (ze K1.out hb3);have HB:=hide (zd HB.out hb3);clear hb3;go_wp2;exact bodyPost_ret (v:=.tuple #[.agg #[.int .i64 R,.int .i64 (C+k),.int .i64 (H+1),.int .i64 B,.int .i64 P],.bool true]) (by simp [results,Tryz.results298,go_sem, *]) rfl ⟨rfl,zZ HB.out (by omega) _ _ _ _ _⟩

theorem ze0 (x:PT) (w:World) :
  Calls Tryz.prog 206 #[.agg #[.bool x.up,.int .i64 x.k,.bool x.has,.int .i64 x.v.r,.int .i64 x.v.c,.int .i64 x.v.h,.int .i64 x.v.b,.int .i64 x.v.p]] w fun e w'=>e=.returned (.bool (ptOk x))∧Below w.heap.size w w':=by
 have he:∀W,(binOp .eql 111 (.agg #[.int .i64 x.v.r,.int .i64 x.v.c,.int .i64 x.v.h,.int .i64 x.v.b,.int .i64 x.v.p]) (.agg #[.int .i64 0,.int .i64 0,.int .i64 0,.int .i64 0,.int .i64 0])).run Tryz.prog W=.ok (.bool (zd0 x.v)) W:=fun W=>by rw [zfT]; rfl
 have hgd:Tryz.prog.eqGuardType Tryz.prog.depth 111=false:=by kernel_rfl
 obtain ⟨up,k,has,⟨r,c,h,b,p⟩⟩:=x
 simp only at he ⊢
 generalize hw1:w.alloc (.cells #[.bool up,.int .i64 k,.bool has,.int .i64 r,.int .i64 c,.int .i64 h,.int .i64 b,.int .i64 p] 113)=w1;have q0:=zb hw1;obtain ⟨c0,c1,c2,c3,c4,c5,c6,c7⟩:=zcr (by rw [← hw1]; exact zv w _:w1.heap[w.heap.size]? = _);cases t1:(decide (1≤k) && decide (k≤1000))
 ·have T1:=hide t1;rw [show ptOk ⟨up,k,has,⟨r,c,h,b,p⟩⟩=false by unfold ptOk; rw [t1]; rfl];clear t1;go_enter Tryz.func206,Tryz.ntmps206;(go_wp2_with fail);refine (zab k 1 1000 _).mono ?_;rintro e w2 ⟨rfl,rfl⟩;rw [T1.out];go_wp2;go_ret;exact ⟨rfl,q0⟩
 cases has
 ·rw [show ptOk ⟨up,k,false,⟨r,c,h,b,p⟩⟩=zd0 ⟨r,c,h,b,p⟩ by unfold ptOk; rw [t1]; cases up <;> rfl];have T1:=hide t1;generalize zd0 ⟨r,c,h,b,p⟩=Q at *;clear t1;go_enter Tryz.func206,Tryz.ntmps206;(go_wp2_with fail);refine (zab k 1 1000 _).mono ?_;rintro e w2 ⟨rfl,rfl⟩;rw [T1.out];go_wp2;go_ret;exact ⟨rfl,q0⟩
 cases up
 ·rw [show ptOk ⟨false,k,true,⟨r,c,h,b,p⟩⟩=false by unfold ptOk; rw [t1]; rfl];have T1:=hide t1;clear t1;go_enter Tryz.func206,Tryz.ntmps206;(go_wp2_with fail);refine (zab k 1 1000 _).mono ?_;rintro e w2 ⟨rfl,rfl⟩;rw [T1.out];go_wp2;go_ret;exact ⟨rfl,q0⟩
 ·rw [show ptOk ⟨true,k,true,⟨r,c,h,b,p⟩⟩=okVc r c h b p by unfold ptOk; rw [t1]; rfl];have T1:=hide t1;clear t1;go_enter Tryz.func206,Tryz.ntmps206;(go_wp2_with fail);refine (zab k 1 1000 _).mono ?_;rintro e w2 ⟨rfl,rfl⟩;rw [T1.out];(go_wp2_with fail);refine (zaF r c h b p _).mono ?_;rintro e w3 ⟨rfl,hb3⟩;have HB:=hide (zd q0 hb3);clear hb3;go_wp2;go_ret;exact ⟨rfl,HB.out⟩

def overB (x:PT):Bool:=x.up && (x.has && zc9 x.v x.k)
def overV (x:PT):VD:=if (x.up && x.has)=true then (if zc9 x.v x.k=true then stepV x.v x.k else x.v) else ⟨0,0,0,0,0⟩

theorem zf6 {x:PT} (h:overB x=true):overV x=stepV x.v x.k:=by
 unfold overB at h;simp only [Bool.and_eq_true] at h;unfold overV;rw [h.1,h.2.1,h.2.2]
 rfl

theorem zb5 (id:Int) (x:PT):offers id x=(overB x && decide ((overV x).r < id)):=by
 cases h:overB x
 ·unfold offers overB at *;cases hu:x.up <;> cases hh:x.has <;> cases hs:zc9 x.v x.k <;> rw [hu,hh,hs] at h <;> simp_all
 ·rw [zf6 h];unfold overB at h;simp only [Bool.and_eq_true] at h;unfold offers;rw [h.1,h.2.1,h.2.2]
  rfl

theorem ze5 (x:PT) (w:World) :
  Calls Tryz.prog 286 #[.agg #[.bool x.up,.int .i64 x.k,.bool x.has,.int .i64 x.v.r,.int .i64 x.v.c,.int .i64 x.v.h,.int .i64 x.v.b,.int .i64 x.v.p]] w fun e w'=>e=.returned (.tuple #[.agg #[.int .i64 (overV x).r,.int .i64 (overV x).c,.int .i64 (overV x).h,.int .i64 (overV x).b,.int .i64 (overV x).p],.bool (overB x)])∧Below w.heap.size w w':=by
 by_cases hno:(x.up && x.has)=false
 ·rw [show overV x=⟨0,0,0,0,0⟩ by unfold overV; rw [hno]; rfl,show overB x=false by unfold overB; cases hu:x.up <;> cases hh:x.has <;> simp_all]
  simp only
  cases hu:x.up
  ·clear hno;go_enter Tryz.func286,Tryz.ntmps286;go_wp2;exact bodyPost_ret (v:=.tuple #[.agg #[.int .i64 0,.int .i64 0,.int .i64 0,.int .i64 0,.int .i64 0],.bool false]) (by simp [results,Tryz.results286,go_sem, *]) rfl ⟨rfl,zaA _ _ _⟩
  ·have hh:x.has=false:=by rw [hu] at hno; simpa using hno
   rw [hh];clear hno;go_enter Tryz.func286,Tryz.ntmps286;go_wp2;exact bodyPost_ret (v:=.tuple #[.agg #[.int .i64 0,.int .i64 0,.int .i64 0,.int .i64 0,.int .i64 0],.bool false]) (by simp [results,Tryz.results286,go_sem, *]) rfl ⟨rfl,zaA _ _ _⟩
 generalize hw1:w.alloc (.cells #[.bool x.up,.int .i64 x.k,.bool x.has,.int .i64 x.v.r,.int .i64 x.v.c,.int .i64 x.v.h,.int .i64 x.v.b,.int .i64 x.v.p] 113)=w1;generalize hw2:w1.alloc (.cells #[.int .i64 0,.int .i64 0,.int .i64 0,.int .i64 0,.int .i64 0] 111)=w2;have q1:=zb hw1;have q2:=zb hw2;have k1:=zk hw1;have k2:=zk hw2;have hs1:w1.heap.size=w.heap.size+1:=by rw [← hw1]; simp
 rw [hs1] at k2;obtain ⟨c0,c1,c2,c3,c4,c5,c6,c7⟩:=zcr (ze k1 q2);have HQ:=hide (zd q1 q2);have K2:=hide k2;have hyes:(x.up && x.has)=true:=by simpa using hno
 have hu:x.up=true:=by simp only [Bool.and_eq_true] at hyes; exact hyes.1
 have hh:x.has=true:=by simp only [Bool.and_eq_true] at hyes; exact hyes.2
 rw [hu] at c0;rw [hh] at c2;generalize hq:overB x=q;generalize hu':overV x=u;have HST:Hid (zbf x.v.r x.v.c x.v.h x.v.b x.v.p x.k=q):=hide (by rw [← hq]; unfold overB zc9; rw [hu,hh]; rfl);have HUV:Hid ((if q=true then Value.agg #[.int .i64 x.v.r,.int .i64 (x.v.c+x.k),.int .i64 (x.v.h+1),.int .i64 x.v.b,.int .i64 x.v.p] else Value.agg #[.int .i64 x.v.r,.int .i64 x.v.c,.int .i64 x.v.h,.int .i64 x.v.b,.int .i64 x.v.p])=.agg #[.int .i64 u.r,.int .i64 u.c,.int .i64 u.h,.int .i64 u.b,.int .i64 u.p]):=hide (by
  rw [← hu'];unfold overV;rw [if_pos hyes];unfold zc9;rw [HST.out];cases q <;> rfl)
 clear hq hu' hu hh hyes hno q1 q2 k1 k2;go_enter Tryz.func286,Tryz.ntmps286;go_wp2_with fail
 refine (zdG x.v.r x.v.c x.v.h x.v.b x.v.p x.k _).mono ?_;rintro e w3 ⟨rfl,hb3⟩;rw [HST.out,HUV.out];obtain ⟨⟨r0,r1,r2,r3,r4⟩,z0,z1,z2,z3,z4⟩:=zt (ze K2.out hb3);have HS:=hide (zZ (zd HQ.out hb3) (g:=w.heap.size+1) (by omega) (.int .i64 u.r) (.int .i64 u.c) (.int .i64 u.h) (.int .i64 u.b) (.int .i64 u.p));clear hb3 c0 c1 c2 c3 c4 c5 c6 c7;go_wp2;exact bodyPost_ret (v:=.tuple #[.agg #[.int .i64 u.r,.int .i64 u.c,.int .i64 u.h,.int .i64 u.b,.int .i64 u.p],.bool q]) (by simp [results,Tryz.results286,go_sem, *]) rfl ⟨rfl,HS.out⟩

theorem zdg {w:World} {g:Nat} {c0 c1 c2 c3 c4:Value} {T:TypeId} (h:w.heap[g]? = some (.cells #[c0,c1,c2,c3,c4] T)) (u0 u1 u2 u3 u4:Value):(((((w.setCell ⟨g,0,none⟩ u0).setCell ⟨g,1,none⟩ u1).setCell ⟨g,2,none⟩ u2).setCell ⟨g,3,none⟩ u3).setCell ⟨g,4,none⟩ u4).heap[g]? = some (.cells #[u0,u1,u2,u3,u4] T) :=
 zp (j:=4) (zp (j:=3) (zp (j:=2) (zp (j:=1) (zp (j:=0) h u0) u1) u2) u3) u4

theorem zbF {w:World} {i g:Nat} {o:Obj} (h:w.heap[i]? = some o) (hne:i≠g) (u0 u1 u2 u3 u4:Value):(((((w.setCell ⟨g,0,none⟩ u0).setCell ⟨g,1,none⟩ u1).setCell ⟨g,2,none⟩ u2).setCell ⟨g,3,none⟩ u3).setCell ⟨g,4,none⟩ u4).heap[i]? = some o :=
 zx (zx (zx (zx (zx h hne) hne) hne) hne) hne

structure BvSt (w W:World) (v f:VD):Prop where
 res:W.heap[w.heap.size]? = some (.cells #[.int .i64 0,.int .i64 0,.int .i64 0,.int .i64 0,.int .i64 0] 111)
 best:W.heap[w.heap.size+1]? = some (.cells #[.int .i64 v.r,.int .i64 v.c,.int .i64 v.h,.int .i64 v.b,.int .i64 v.p] 111)
 frm:W.heap[w.heap.size+1+1]? = some (.cells #[.int .i64 f.r,.int .i64 f.c,.int .i64 f.h,.int .i64 f.b,.int .i64 f.p] 111)
 below:Below w.heap.size w W

theorem BvSt.later {w W W':World} {v f:VD} (h:BvSt w W v f) (hb:Below W.heap.size W W'):BvSt w W' v f :=
 ⟨ze h.res hb,ze h.best hb,ze h.frm hb,zd h.below hb⟩

theorem BvSt.setBest {w W:World} {v f:VD} (h:BvSt w W v f) (u:VD):BvSt w (((((W.setCell ⟨w.heap.size+1,0,none⟩ (.int .i64 u.r)).setCell ⟨w.heap.size+1,1,none⟩ (.int .i64 u.c)).setCell ⟨w.heap.size+1,2,none⟩ (.int .i64 u.h)).setCell ⟨w.heap.size+1,3,none⟩ (.int .i64 u.b)).setCell ⟨w.heap.size+1,4,none⟩ (.int .i64 u.p)) u f :=
 ⟨zbF h.res (by omega) _ _ _ _ _,zdg h.best _ _ _ _ _,zbF h.frm (by omega) _ _ _ _ _,zZ h.below (by omega) _ _ _ _ _⟩

theorem BvSt.setFrom {w W:World} {v f:VD} (h:BvSt w W v f) (u:VD):BvSt w (((((W.setCell ⟨w.heap.size+1+1,0,none⟩ (.int .i64 u.r)).setCell ⟨w.heap.size+1+1,1,none⟩ (.int .i64 u.c)).setCell ⟨w.heap.size+1+1,2,none⟩ (.int .i64 u.h)).setCell ⟨w.heap.size+1+1,3,none⟩ (.int .i64 u.b)).setCell ⟨w.heap.size+1+1,4,none⟩ (.int .i64 u.p)) v u :=
 ⟨zbF h.res (by omega) _ _ _ _ _,zbF h.best (by omega) _ _ _ _ _,zdg h.frm _ _ _ _ _,zZ h.below (by omega) _ _ _ _ _⟩

theorem zbJ (id:Int) (a:Option Addr) (n c:Nat) (l:List PT) (w:World) (h:GRow ptF w a n c l) :
  Calls Tryz.prog 227 #[.int .i64 id,.slice a n c] w fun e w'=>e=.returned (.tuple #[.agg #[.int .i64 (bestV id (zK id l)).r,.int .i64 (bestV id (zK id l)).c,.int .i64 (bestV id (zK id l)).h,.int .i64 (bestV id (zK id l)).b,.int .i64 (bestV id (zK id l)).p],.int .i64 (bestP (zK id l))])∧Below w.heap.size w w':=by
 have hle:=h.le;have htop:=h.top;unfold maxLen at htop;have hsz:=hide h.size;go_enter Tryz.func227,Tryz.ntmps227;go_wp2_with fail
 generalize hw3:((w.alloc (Obj.cells #[.int .i64 0,.int .i64 0,.int .i64 0,.int .i64 0,.int .i64 0] 111)).alloc (Obj.cells #[.int .i64 id,.int .i64 0,.int .i64 0,.int .i64 id,.int .i64 0] 111)).alloc (Obj.cells #[.int .i64 0,.int .i64 0,.int .i64 0,.int .i64 0,.int .i64 0] 111)=w3;have st3:BvSt w w3 (bestV id none) (fromV none):=by
  subst hw3;obtain ⟨k0,k1,k2⟩:=zbz (Below.refl _ (((w.alloc (Obj.cells #[.int .i64 0,.int .i64 0,.int .i64 0,.int .i64 0,.int .i64 0] 111)).alloc (Obj.cells #[.int .i64 id,.int .i64 0,.int .i64 0,.int .i64 id,.int .i64 0] 111)).alloc (Obj.cells #[.int .i64 0,.int .i64 0,.int .i64 0,.int .i64 0,.int .i64 0] 111)));exact ⟨k0,k1,k2,zbg _ _ _ _⟩
 clear hw3
 go_loopw [8,9] (fun p i wr=>∃(k:Nat) (s:Option (VD × Nat)),k≤n∧i=.int .i64 k∧p=.int .i64 (bestP s)∧zbq id l k=s∧BvSt w wr (bestV id s) (fromV s)) (fun _ i _=>n - (intOf i).toNat)
 case atStart=>exact ⟨0,none,Nat.zero_le _,rfl,rfl,rfl,st3⟩
 case round =>
  obtain ⟨k,s,hk,rfl,rfl,hs,st⟩:=hrel;obtain ⟨bv,hbv⟩:∃y,y=bestV id s:=⟨_,rfl⟩;obtain ⟨fv,hfv⟩:∃y,y=fromV s:=⟨_,rfl⟩;have BACK:Hid (∀W,BvSt w W bv fv→BvSt w W (bestV id s) (fromV s)):=hide (by subst hbv hfv; exact fun W h=>h);rw [← hbv,← hfv] at st;have HBV:=hide hbv;have HFV:=hide hfv;clear hbv hfv;by_cases hlt:k < n
  ·obtain ⟨x,b,off,hx,rfl,c0,c1,c2,c3,c4,c5,c6,c7⟩:=pt_at (h.below st.below) k hlt;have hnx:=zdq (id:=id) hx;rw [hs] at hnx;have i1:(0:Int)≤(k:Int):=by omega
   have i2:(k:Int) < (n:Int):=by omega
   have NX:=hide hnx;clear hs hnx hx;cases hu:x.up
   ·rw [hu] at c0;have HE:=hide (NX.out.trans (zbh (by unfold offers; rw [hu]; rfl)));clear hu c1 c2 c3 c4 c5 c6 c7;go_wp2
    go_roundw
    case rel=>exact ⟨k+1,s,by omega,by go_num,rfl,HE.out,BACK.out _ st⟩
    case measure=>simp [intOf]; omega
   cases hh:x.has
   ·rw [hu] at c0;rw [hh] at c2;have HE:=hide (NX.out.trans (zbh (by unfold offers; rw [hu,hh]; rfl)));clear hu hh c1 c3 c4 c5 c6 c7;go_wp2
    go_roundw
    case rel=>exact ⟨k+1,s,by omega,by go_num,rfl,HE.out,BACK.out _ st⟩
    case measure=>simp [intOf]; omega
   rw [hu] at c0;rw [hh] at c2;have HUH:Hid (x.up=true∧x.has=true):=hide ⟨hu,hh⟩;have HSS:Hid (∀W',Below wr.heap.size wr W'→zcc W' b (off+k*8+1) (.int .i64 x.k)∧zcc W' b (off+k*8+3) (.int .i64 x.v.r)∧zcc W' b (off+k*8+4) (.int .i64 x.v.c)∧zcc W' b (off+k*8+5) (.int .i64 x.v.h)∧zcc W' b (off+k*8+6) (.int .i64 x.v.b)∧zcc W' b (off+k*8+7) (.int .i64 x.v.p)):=hide (fun W' hb=>⟨(hb.cell (zu c1)).trans c1,(hb.cell (zu c3)).trans c3,(hb.cell (zu c4)).trans c4,(hb.cell (zu c5)).trans c5,(hb.cell (zu c6)).trans c6,(hb.cell (zu c7)).trans c7⟩);obtain ⟨q,hq⟩:∃q,zbf x.v.r x.v.c x.v.h x.v.b x.v.p x.k=q:=⟨_,rfl⟩;obtain ⟨u,hu'⟩:∃u,u=(if q=true then stepV x.v x.k else x.v):=⟨_,rfl⟩;have HST:=hide hq;have HQ:Hid ((if q=true then Value.agg #[.int .i64 x.v.r,.int .i64 (x.v.c+x.k),.int .i64 (x.v.h+1),.int .i64 x.v.b,.int .i64 x.v.p] else Value.agg #[.int .i64 x.v.r,.int .i64 x.v.c,.int .i64 x.v.h,.int .i64 x.v.b,.int .i64 x.v.p])=.agg #[.int .i64 u.r,.int .i64 u.c,.int .i64 u.h,.int .i64 u.b,.int .i64 u.p]):=hide (by subst hu'; cases q <;> rfl);have HU:=hide hu';have ST:=hide st;clear hq hu' hu hh c1 c3 c4 c5 c6 c7;(go_upto_region 8 with fail);clear c0 c2
   go_cut [10,11] from 16 to 75 (fun s10 s11 wx=>∃g:Nat,s10=.pointer (some ⟨g,0,none⟩)∧s11=.bool q∧wr.heap.size≤g∧wx.heap[g]? = some (.cells #[.int .i64 u.r,.int .i64 u.c,.int .i64 u.h,.int .i64 u.b,.int .i64 u.p] 111)∧Below wr.heap.size wr wx)
   case first =>
    have vv:Below wr.heap.size wr wr.drew:=zr (Below.refl _ _);(go_wp2_with fail);refine wp_region_held_drew (S:=(fun W=>zcc W b (off+k*8+1) (.int .i64 x.k)∧zcc W b (off+k*8+3) (.int .i64 x.v.r)∧zcc W b (off+k*8+4) (.int .i64 x.v.c)∧zcc W b (off+k*8+5) (.int .i64 x.v.h)∧zcc W b (off+k*8+6) (.int .i64 x.v.b)∧zcc W b (off+k*8+7) (.int .i64 x.v.p))) (by kernel_rfl) (HSS.out _ vv) (fun hHeld => ?_)
    repeat' first
    |
     with_reducible refine kLa ?_
     first
     |
      refine kLf 0 ?_;refine kK 0 ?_
     |
      refine kLf 1 ?_;refine kK 1 ?_
     |
      refine kLf 2 ?_;refine kK 2 ?_
     |
      refine kLf 3 ?_;refine kK 3 ?_
     |
      refine kLf 4 ?_;refine kK 4 ?_
     |
      refine kLf 5 ?_;refine kK 5 ?_
     |
      refine kLf 6 ?_;refine kK 6 ?_
     |
      refine kLf 7 ?_;refine kK 7 ?_
     |
      refine kLf 8 ?_;refine kK 8 ?_
     |
      refine kLf 9 ?_;refine kK 9 ?_
     |
      refine kLf 11 ?_;refine kK 11 ?_
     |
      refine kLf 12 ?_;refine kK 12 ?_
     |
      refine kLf 13 ?_;refine kK 13 ?_
     |
      refine kLf 16 ?_;refine kK 16 ?_
     |
      refine kLp [10,14] ?_
     |
      refine kLp [14] ?_
     |
      refine kLp [15] ?_
     |
      refine kLp [10] ?_
     |
      refine wpAnyH_done (by kernel_rfl) ?_ _;clear hHeld;(go_wp2_with fail)
      go_meet
      exact ⟨_,rfl,rfl,gB,kB,vv⟩
    |
     exact AllReadyH.nil
    |
     refine kLc 10 (fun K hK => ?_) ?_;go_simp;refine (zdU x.v.r x.v.c x.v.h x.v.b x.v.p x.k _).mono ?_;rintro e wx ⟨rfl,hbx⟩;rw [HST.out,HQ.out];(try have kB:=ze kB hbx);have vv:=zd vv hbx;clear hbx;(go_wp2_with fail);refine kO hK (HSS.out _ vv) fun hHeld => ?_
     clear hK K
    |
     refine kLc 14 (fun K hK => ?_) ?_;go_simp
     first
     | refine zac (K:=K _) (fun wx kB hbx => ?_)
     | refine zR (K:=K _) (fun wx kB hbx => ?_)
     have gB:=vv.size;have vv:=zd vv hbx;clear hbx;refine kO hK (HSS.out _ vv) fun hHeld => ?_
     clear hK K
    |
     refine kLc 15 (fun K hK => ?_) ?_;obtain ⟨⟨b0,b1,b2,b3,b4⟩,f0,f1,f2,f3,f4⟩:=zt kB;go_simp;have vv:=zZ vv gB (.int .i64 u.r) (.int .i64 u.c) (.int .i64 u.h) (.int .i64 u.b) (.int .i64 u.p);have kB:=zdg kB (.int .i64 u.r) (.int .i64 u.c) (.int .i64 u.h) (.int .i64 u.b) (.int .i64 u.p);clear b0 b1 b2 b3 b4 f0 f1 f2 f3 f4;refine kO hK (HSS.out _ vv) fun hHeld => ?_
     clear hK K
   case rest =>
    obtain ⟨g,rfl,rfl,hg,kX,hb⟩:=hcut;obtain ⟨wS,hwS⟩:∃x,x=wc:=⟨_,rfl⟩;subst hwS;have st:=ST.out.later hb;have hz:=ST.out.frm;have hlt2:=(Array.getElem?_eq_some_iff.1 hz).1;have ne1:¬g=w.heap.size+1+1:=by omega
    have ne2:¬w.heap.size+1+1=g:=by omega
    have ne3:¬g=w.heap.size+1:=by omega
    have ne4:¬w.heap.size+1=g:=by omega
    obtain ⟨⟨x0,x1,x2,x3,x4⟩,-⟩:=zt kX;have KX:=hide kX;clear hb hz hlt2 hg kX;cases q
    ·have HE:=hide (NX.out.trans (zbh (by unfold offers zc9; rw [HST.out]; simp)));go_wp2
     go_roundw
     case rel=>exact ⟨k+1,s,by omega,by go_num,rfl,HE.out,BACK.out _ st⟩
     case measure=>simp [intOf]; omega
    have hur:u.r=x.v.r:=by rw [HU.out]; rfl
    cases hlr:decide (u.r < id)
    ·have HE:=hide (NX.out.trans (zbh (by unfold offers; rw [← hur,hlr]; simp)));have hlr:¬u.r < id:=by simpa using hlr
     clear hur;go_wp2
     go_roundw
     case rel=>exact ⟨k+1,s,by omega,by go_num,rfl,HE.out,BACK.out _ st⟩
     case measure=>simp [intOf]; omega
    have ho:offers id x=true:=by unfold offers zc9; rw [HUH.out.1,HUH.out.2,HST.out,← hur,hlr]; rfl
    have hlr:u.r < id:=by simpa using hlr
    have huu:stepV x.v x.k=u:=HU.out.symm;have HO:=hide ho;have HUU:=hide huu;clear hur ho huu;clear ne3 ne4;cases s with
    | none =>
     have HE:Hid (zbq id l (k+1)=some (u,k)):=hide (by rw [NX.out]; unfold zbs; rw [if_pos HO.out,HUU.out]);rw [show bestP none = -1 from rfl];have SL:=hide st;obtain ⟨⟨z0,z1,z2,z3,z4⟩,v0,v1,v2,v3,v4⟩:=zt st.frm;clear st;(go_upto_region 11 with fail);generalize hwf:((((wS.setCell ⟨w.heap.size+1+1,0,none⟩ (.int .i64 u.r)).setCell ⟨w.heap.size+1+1,1,none⟩ (.int .i64 u.c)).setCell ⟨w.heap.size+1+1,2,none⟩ (.int .i64 u.h)).setCell ⟨w.heap.size+1+1,3,none⟩ (.int .i64 u.b)).setCell ⟨w.heap.size+1+1,4,none⟩ (.int .i64 u.p)=wf;have stf:BvSt w wf bv u:=by rw [← hwf]; exact SL.out.setFrom u
     have kf:wf.heap[g]? = some (.cells #[.int .i64 u.r,.int .i64 u.c,.int .i64 u.h,.int .i64 u.b,.int .i64 u.p] 111):=by rw [← hwf]; exact zbF KX.out (by omega) _ _ _ _ _
     clear hwf x0 x1 x2 x3 x4 v0 v1 v2 v3 v4 z0 z1 z2 z3 z4;obtain ⟨⟨x0,x1,x2,x3,x4⟩,-⟩:=zt kf;obtain ⟨⟨n0,n1,n2,n3,n4⟩,m0,m1,m2,m3,m4⟩:=zt stf.best;have HSET:Hid (BvSt w _ ⟨u.r,u.c,u.h,id,0⟩ u):=hide (stf.setBest ⟨u.r,u.c,u.h,id,0⟩);clear stf kf;go_wp2
     go_roundw
     case rel=>exact ⟨k+1,some (u,k),by omega,by go_num,rfl,HE.out,HSET.out⟩
     case measure=>simp [intOf]; omega
    | some fj =>
     obtain ⟨f,j⟩:=fj;rw [show bestP (some (f,j))=(j:Int) from rfl];have hneg:¬((j:Int) < 0):=by omega
     have hff:fv=f:=HFV.out;subst hff;obtain ⟨⟨z0,z1,z2,z3,z4⟩,-⟩:=zt st.frm;cases hl:lessV u fv
     ·have HE:Hid (zbq id l (k+1)=some (fv,j)):=hide (by rw [NX.out]; unfold zbs; rw [if_pos HO.out,HUU.out]; simp only; rw [if_neg (by rw [hl]; decide)]);have HL:Hid (zaM u.r u.c u.b u.p fv.r fv.c fv.b fv.p=false):=hide hl;clear hl;(go_wp2_with fail);refine (zbd u.r u.c u.h u.b u.p fv.r fv.c fv.h fv.b fv.p _).mono ?_;rintro e wl ⟨rfl,hbl⟩;rw [HL.out];have SL:=hide (st.later hbl);clear hbl st z0 z1 z2 z3 z4 x0 x1 x2 x3 x4;go_wp2
      go_roundw
      case rel=>exact ⟨k+1,some (fv,j),by omega,by go_num,rfl,HE.out,BACK.out _ SL.out⟩
      case measure=>simp [intOf]; omega
     ·have HE:Hid (zbq id l (k+1)=some (u,k)):=hide (by rw [NX.out]; unfold zbs; rw [if_pos HO.out,HUU.out]; simp only; rw [if_pos hl]);have HL:Hid (zaM u.r u.c u.b u.p fv.r fv.c fv.b fv.p=true):=hide hl;clear hl;(go_wp2_with fail);refine (zbd u.r u.c u.h u.b u.p fv.r fv.c fv.h fv.b fv.p _).mono ?_;rintro e wl ⟨rfl,hbl⟩;rw [HL.out];have SL:=hide (st.later hbl);have KX:=hide (ze KX.out hbl);clear hbl st z0 z1 z2 z3 z4 x0 x1 x2 x3 x4;obtain ⟨⟨x0,x1,x2,x3,x4⟩,-⟩:=zt KX.out;obtain ⟨⟨z0,z1,z2,z3,z4⟩,v0,v1,v2,v3,v4⟩:=zt SL.out.frm;(go_upto_region 11 with fail);generalize hwf:((((wl.setCell ⟨w.heap.size+1+1,0,none⟩ (.int .i64 u.r)).setCell ⟨w.heap.size+1+1,1,none⟩ (.int .i64 u.c)).setCell ⟨w.heap.size+1+1,2,none⟩ (.int .i64 u.h)).setCell ⟨w.heap.size+1+1,3,none⟩ (.int .i64 u.b)).setCell ⟨w.heap.size+1+1,4,none⟩ (.int .i64 u.p)=wf;have stf:BvSt w wf bv u:=by rw [← hwf]; exact SL.out.setFrom u
      have kf:wf.heap[g]? = some (.cells #[.int .i64 u.r,.int .i64 u.c,.int .i64 u.h,.int .i64 u.b,.int .i64 u.p] 111):=by rw [← hwf]; exact zbF KX.out (by omega) _ _ _ _ _
      clear hwf x0 x1 x2 x3 x4 v0 v1 v2 v3 v4 z0 z1 z2 z3 z4;obtain ⟨⟨x0,x1,x2,x3,x4⟩,-⟩:=zt kf;obtain ⟨⟨n0,n1,n2,n3,n4⟩,m0,m1,m2,m3,m4⟩:=zt stf.best;have HSET:Hid (BvSt w _ ⟨u.r,u.c,u.h,id,0⟩ u):=hide (stf.setBest ⟨u.r,u.c,u.h,id,0⟩);clear stf kf;go_wp2
      go_roundw
      case rel=>exact ⟨k+1,some (u,k),by omega,by go_num,rfl,HE.out,HSET.out⟩
      case measure=>simp [intOf]; omega
  ·have hkn:k=n:=by omega
   subst hkn;have HB:Hid (zK id l=s):=hide (by unfold zK; rw [hsz.out]; exact hs);obtain ⟨⟨x0,x1,x2,x3,x4⟩,y0,y1,y2,y3,y4⟩:=zt st.best;obtain ⟨⟨r0,r1,r2,r3,r4⟩,z0,z1,z2,z3,z4⟩:=zt st.res;have ne:¬w.heap.size=w.heap.size+1:=by omega
   have hb:=zZ st.below (Nat.le_refl w.heap.size) (.int .i64 bv.r) (.int .i64 bv.c) (.int .i64 bv.h) (.int .i64 bv.b) (.int .i64 bv.p);clear hs st;go_wp2;exact bodyPost_ret (v:=.tuple #[.agg #[.int .i64 bv.r,.int .i64 bv.c,.int .i64 bv.h,.int .i64 bv.b,.int .i64 bv.p],.int .i64 (bestP s)]) (by simp [results,Tryz.results227,go_sem, *]) rfl ⟨(by rw [HB.out,← HBV.out]),hb⟩

def cmpI (a b:Int):Int:=if a < b then -1 else if b < a then 1 else 0

theorem zbU (a:Int) (w:World):Calls Tryz.prog 196 #[.int .i64 a] w fun e w'=>e=.returned (.bool false)∧w'=w:=by
 go_enter Tryz.func196,Tryz.ntmps196;go_wp2;go_ret;exact ⟨zH (by simp),rfl⟩

theorem zeS (a b:Int) (w:World):Calls Tryz.prog 115 #[.int .i64 a,.int .i64 b] w fun e w'=>e=.returned (.int .i64 (cmpI a b))∧w'=w:=by
 by_cases h1:a < b
 ·rw [show cmpI a b = -1 from if_pos h1];go_enter Tryz.func115,Tryz.ntmps115;(go_wp2_with fail);refine (zbU a _).mono ?_;rintro e w1 ⟨rfl,rfl⟩;(go_wp2_with fail);refine (zbU b _).mono ?_;rintro e w2 ⟨rfl,rfl⟩;go_wp2;go_ret;exact ⟨rfl,rfl⟩
 by_cases h2:b < a
 ·rw [show cmpI a b=1 by unfold cmpI; rw [if_neg h1,if_pos h2]];go_enter Tryz.func115,Tryz.ntmps115;(go_wp2_with fail);refine (zbU a _).mono ?_;rintro e w1 ⟨rfl,rfl⟩;(go_wp2_with fail);refine (zbU b _).mono ?_;rintro e w2 ⟨rfl,rfl⟩;go_wp2;go_ret;exact ⟨rfl,rfl⟩
 ·rw [show cmpI a b=0 by unfold cmpI; rw [if_neg h1,if_neg h2]];go_enter Tryz.func115,Tryz.ntmps115;(go_wp2_with fail);refine (zbU a _).mono ?_;rintro e w1 ⟨rfl,rfl⟩;(go_wp2_with fail);refine (zbU b _).mono ?_;rintro e w2 ⟨rfl,rfl⟩;go_wp2;go_ret;exact ⟨rfl,rfl⟩

def or4 (a b c d:Int):Int:=if ¬a=0 then a else if ¬b=0 then b else if ¬c=0 then c else d

theorem zi7 (a b c d:Int) (g:Nat) (w:World) (hb:w.heap[g]? = some (.cells #[.int .i64 a,.int .i64 b,.int .i64 c,.int .i64 d] 3)) :
  Calls Tryz.prog 271 #[.slice (some ⟨g,0,none⟩) 4 4] w fun e w'=>e=.returned (.int .i64 (or4 a b c d))∧w'=w:=by
 obtain ⟨⟨x0,x1,x2,x3⟩,-⟩:=zah hb;generalize ho:or4 a b c d=o;have HO:=hide ho;clear ho hb;go_enter Tryz.func271,Tryz.ntmps271;go_wp2
 go_loop [8] (fun i=>∃k:Nat,k≤4∧i=.int .i64 k∧(1≤k→a=0)∧(2≤k→b=0)∧(3≤k→c=0)∧(4≤k→d=0)) (fun i=>4 - (intOf i).toNat)
 case atStart=>exact ⟨0,Nat.zero_le _,rfl,by omega,by omega,by omega,by omega⟩
 case round =>
  obtain ⟨k,hk,hi,e1,e2,e3,e4⟩:=hrel;rcases (show k=0∨k=1∨k=2∨k=3∨k=4 by omega) with rfl | rfl | rfl | rfl | rfl
  ·have hi:_=Value.int .i64 0:=hi;subst hi;clear e1 e2 e3 e4;by_cases h0:a=0
   ·have t0:(a != 0)=false:=by simp [h0]
    have H0:=hide h0;clear h0;go_wp2
    go_round
    case rel=>exact ⟨1,by omega,by go_num,fun _=>H0.out,by omega,by omega,by omega⟩
    case measure=>simp [intOf]
   ·have t0:(a != 0)=true:=by simp [h0]
    have H0:=hide h0;clear h0;go_wp2;go_ret
    have:=HO.out
    unfold or4 at this;rw [if_pos H0.out] at this;exact ⟨(by rw [← this]; rfl),rfl⟩
  ·have hi:_=Value.int .i64 1:=hi;subst hi;have h1:=hide (e1 (by omega));clear e1 e2 e3 e4;by_cases h0:b=0
   ·have t0:(b != 0)=false:=by simp [h0]
    have H0:=hide h0;clear h0;go_wp2
    go_round
    case rel=>exact ⟨2,by omega,by go_num,fun _=>h1.out,fun _=>H0.out,by omega,by omega⟩
    case measure=>simp [intOf]
   ·have t0:(b != 0)=true:=by simp [h0]
    have H0:=hide h0;clear h0;go_wp2;go_ret
    have:=HO.out
    unfold or4 at this;rw [if_neg (fun h=>h h1.out),if_pos H0.out] at this;exact ⟨(by rw [← this]; rfl),rfl⟩
  ·have hi:_=Value.int .i64 2:=hi;subst hi;have h1:=hide (e1 (by omega));have h2:=hide (e2 (by omega));clear e1 e2 e3 e4;by_cases h0:c=0
   ·have t0:(c != 0)=false:=by simp [h0]
    have H0:=hide h0;clear h0;go_wp2
    go_round
    case rel=>exact ⟨3,by omega,by go_num,fun _=>h1.out,fun _=>h2.out,fun _=>H0.out,by omega⟩
    case measure=>simp [intOf]
   ·have t0:(c != 0)=true:=by simp [h0]
    have H0:=hide h0;clear h0;go_wp2;go_ret
    have:=HO.out
    unfold or4 at this;rw [if_neg (fun h=>h h1.out),if_neg (fun h=>h h2.out),if_pos H0.out] at this;exact ⟨(by rw [← this]; rfl),rfl⟩
  ·have hi:_=Value.int .i64 3:=hi;subst hi;have h1:=hide (e1 (by omega));have h2:=hide (e2 (by omega));have h3:=hide (e3 (by omega));clear e1 e2 e3 e4;by_cases h0:d=0
   ·have t0:(d != 0)=false:=by simp [h0]
    have H0:=hide h0;clear h0;go_wp2
    go_round
    case rel=>exact ⟨4,by omega,by go_num,fun _=>h1.out,fun _=>h2.out,fun _=>h3.out,fun _=>H0.out⟩
    case measure=>simp [intOf]
   ·have t0:(d != 0)=true:=by simp [h0]
    clear h0;go_wp2;go_ret
    have:=HO.out
    unfold or4 at this;rw [if_neg (fun h=>h h1.out),if_neg (fun h=>h h2.out),if_neg (fun h=>h h3.out)] at this;exact ⟨(by rw [← this]; rfl),rfl⟩
  ·have hi:_=Value.int .i64 4:=hi;subst hi;have h1:=hide (e1 (by omega));have h2:=hide (e2 (by omega));have h3:=hide (e3 (by omega));have h4:=hide (e4 (by omega));clear e1 e2 e3 e4;go_wp2;go_ret
   have:=HO.out
   unfold or4 at this;rw [if_neg (fun h=>h h1.out),if_neg (fun h=>h h2.out),if_neg (fun h=>h h3.out),h4.out] at this;exact ⟨(by rw [← this]; rfl),rfl⟩

theorem ziq (R C B P R' C' B' P':Int):decide (or4 (cmpI R R') (cmpI C C') (cmpI B B') (cmpI P P') < 0)=zaM R C B P R' C' B' P':=by
 have z:∀a b:Int,(cmpI a b=0↔a=b)∧(cmpI a b < 0↔a < b):=by
  intro a b;unfold cmpI
  constructor <;> split <;> (try split) <;> omega
 obtain ⟨a1,a2⟩:=z R R';obtain ⟨b1,b2⟩:=z C C';obtain ⟨c1,c2⟩:=z B B';obtain ⟨d1,d2⟩:=z P P';unfold or4 zaM;generalize cmpI R R'=x at *;generalize cmpI C C'=y at *;generalize cmpI B B'=u at *;generalize cmpI P P'=v at *;by_cases h1:R=R'
 ·have e1:x=0:=a1.2 h1;have t1:(R != R')=false:=by simp [h1]
  rw [if_neg (by simp [e1]:¬¬x=0),t1,if_neg Bool.false_ne_true];by_cases h2:C=C'
  ·have e2:y=0:=b1.2 h2;have t2:(C != C')=false:=by simp [h2]
   rw [if_neg (by simp [e2]:¬¬y=0),t2,if_neg Bool.false_ne_true];by_cases h3:B=B'
   ·have e3:u=0:=c1.2 h3;have t3:(B != B')=false:=by simp [h3]
    rw [if_neg (by simp [e3]:¬¬u=0),t3,if_neg Bool.false_ne_true];exact decide_eq_decide.2 d2
   ·have e3:¬u=0:=fun h=>h3 (c1.1 h)
    have t3:(B != B')=true:=by simp [h3]
    rw [if_pos e3,t3,if_pos rfl];exact decide_eq_decide.2 c2
  ·have e2:¬y=0:=fun h=>h2 (b1.1 h)
   have t2:(C != C')=true:=by simp [h2]
   rw [if_pos e2,t2,if_pos rfl];exact decide_eq_decide.2 b2
 ·have e1:¬x=0:=fun h=>h1 (a1.1 h)
  have t1:(R != R')=true:=by simp [h1]
  rw [if_pos e1,t1,if_pos rfl];exact decide_eq_decide.2 a2

theorem zba (R C H B P R' C' H' B' P':Int) (w:World) :
  Calls Tryz.prog 269 #[.agg #[.int .i64 R,.int .i64 C,.int .i64 H,.int .i64 B,.int .i64 P],.agg #[.int .i64 R',.int .i64 C',.int .i64 H',.int .i64 B',.int .i64 P']] w fun e w'=>e=.returned (.bool (zaM R C B P R' C' B' P'))∧Below w.heap.size w w':=by
 have q2:=zaA w (.cells #[.int .i64 R,.int .i64 C,.int .i64 H,.int .i64 B,.int .i64 P] 111) (.cells #[.int .i64 R',.int .i64 C',.int .i64 H',.int .i64 B',.int .i64 P'] 111);obtain ⟨k0,k1⟩:=zb3 (Below.refl _ ((w.alloc (.cells #[.int .i64 R,.int .i64 C,.int .i64 H,.int .i64 B,.int .i64 P] 111)).alloc (.cells #[.int .i64 R',.int .i64 C',.int .i64 H',.int .i64 B',.int .i64 P'] 111)));have HL:=hide (ziq R C B P R' C' B' P');generalize zaM R C B P R' C' B' P'=L at *;go_enter Tryz.func269,Tryz.ntmps269;go_wp2_with fail
 generalize ((w.alloc (.cells #[.int .i64 R,.int .i64 C,.int .i64 H,.int .i64 B,.int .i64 P] 111)).alloc (.cells #[.int .i64 R',.int .i64 C',.int .i64 H',.int .i64 B',.int .i64 P'] 111))=wb at *;obtain ⟨⟨x0,x1,x2,x3,x4⟩,-⟩:=zt k0;obtain ⟨⟨y0,y1,y2,y3,y4⟩,-⟩:=zt k1;clear k0 k1
 go_region_held3 (fun W=>(W.cell? ⟨w.heap.size,0,none⟩=some (.int .i64 R)∧W.cell? ⟨w.heap.size,1,none⟩=some (.int .i64 C)∧W.cell? ⟨w.heap.size,3,none⟩=some (.int .i64 B)∧W.cell? ⟨w.heap.size,4,none⟩=some (.int .i64 P))∧(W.cell? ⟨w.heap.size+1,0,none⟩=some (.int .i64 R')∧W.cell? ⟨w.heap.size+1,1,none⟩=some (.int .i64 C')∧W.cell? ⟨w.heap.size+1,3,none⟩=some (.int .i64 B')∧W.cell? ⟨w.heap.size+1,4,none⟩=some (.int .i64 P'))) (first | assumption | go_keep) (first
  | (go_at_call 115; refine (zeS _ _ _).mono ?_; rintro e w1 ⟨rfl,rfl⟩)
  | (go_at_call 271; refine (zi7 (cmpI R R') (cmpI C C') (cmpI B B') (cmpI P P') wb.heap.size _ (za5 (zv wb _))).mono ?_; rintro e w2 ⟨rfl,rfl⟩))
 go_wp2;go_ret;exact ⟨zH HL.out,zr (zdj q2 _)⟩

def heldV (id:Int):Option (VD × Nat)→VD
 | none=>⟨id,0,0,0,0⟩
 | some (f,_)=>f

structure BiSt (w W:World) (v:VD):Prop where
 res:W.heap[w.heap.size]? = some (.cells #[.int .i64 0,.int .i64 0,.int .i64 0,.int .i64 0,.int .i64 0] 111)
 best:W.heap[w.heap.size+1]? = some (.cells #[.int .i64 v.r,.int .i64 v.c,.int .i64 v.h,.int .i64 v.b,.int .i64 v.p] 111)
 below:Below w.heap.size w W

theorem BiSt.later {w W W':World} {v:VD} (h:BiSt w W v) (hb:Below W.heap.size W W'):BiSt w W' v :=
 ⟨ze h.res hb,ze h.best hb,zd h.below hb⟩

theorem BiSt.set {w W:World} {v:VD} (h:BiSt w W v) (u:VD):BiSt w (((((W.setCell ⟨w.heap.size+1,0,none⟩ (.int .i64 u.r)).setCell ⟨w.heap.size+1,1,none⟩ (.int .i64 u.c)).setCell ⟨w.heap.size+1,2,none⟩ (.int .i64 u.h)).setCell ⟨w.heap.size+1,3,none⟩ (.int .i64 u.b)).setCell ⟨w.heap.size+1,4,none⟩ (.int .i64 u.p)) u :=
 ⟨zbF h.res (by omega) _ _ _ _ _,zdg h.best _ _ _ _ _,zZ h.below (by omega) _ _ _ _ _⟩

theorem zhd {id:Int} {u:VD} (h:u.r < id):zaM u.r u.c u.b u.p id 0 0 0=true:=by
 unfold zaM
 have:(u.r != id)=true:=by simp; omega
 rw [this]
 simp [h]

theorem zgj {id:Int} {s:Option (VD × Nat)} {i:Nat} {x:PT} (ho:offers id x=true) (hs:∀f j,s=some (f,j)→f.r < id) :
  zbs id s i x=if lessV (overV x) (heldV id s)=true then some (overV x,i) else s:=by
 have ho':=ho;rw [zb5] at ho';simp only [Bool.and_eq_true,decide_eq_true_eq] at ho';have e:=zf6 ho'.1;unfold zbs;rw [if_pos ho];cases s with
 | none =>
  rw [if_pos]
  ·rw [e]
  ·exact zhd ho'.2
 | some y =>
  obtain ⟨f,j⟩:=y;simp only [heldV];rw [e]
  rfl

theorem zbD (id:Int) (a:Option Addr) (n c:Nat) (l:List PT) (w:World) (h:GRow ptF w a n c l) :
  Calls Tryz.prog 268 #[.int .i64 id,.slice a n c] w fun e w'=>e=.returned (.tuple #[.agg #[.int .i64 (bestV id (zK id l)).r,.int .i64 (bestV id (zK id l)).c,.int .i64 (bestV id (zK id l)).h,.int .i64 (bestV id (zK id l)).b,.int .i64 (bestV id (zK id l)).p],.int .i64 (bestP (zK id l))])∧Below w.heap.size w w':=by
 have hle:=h.le;have htop:=h.top;unfold maxLen at htop;have hsz:=hide h.size;go_enter Tryz.func268,Tryz.ntmps268;go_wp2_with fail
 generalize hw3:(w.alloc (Obj.cells #[.int .i64 0,.int .i64 0,.int .i64 0,.int .i64 0,.int .i64 0] 111)).alloc (Obj.cells #[.int .i64 id,.int .i64 0,.int .i64 0,.int .i64 0,.int .i64 0] 111)=w3;have st3:BiSt w w3 (heldV id none):=by
  subst hw3;obtain ⟨k0,k1⟩:=zb3 (Below.refl _ ((w.alloc (Obj.cells #[.int .i64 0,.int .i64 0,.int .i64 0,.int .i64 0,.int .i64 0] 111)).alloc (Obj.cells #[.int .i64 id,.int .i64 0,.int .i64 0,.int .i64 0,.int .i64 0] 111)));exact ⟨k0,k1,zaA _ _ _⟩
 clear hw3
 go_loopw [7,16] (fun p i wr=>∃(k:Nat) (s:Option (VD × Nat)),k≤n∧i=.int .i64 k∧p=.int .i64 (bestP s)∧(zbq id l k=s∧∀f j,s=some (f,j)→f.r < id)∧BiSt w wr (heldV id s)) (fun _ i _=>n - (intOf i).toNat)
 case atStart=>exact ⟨0,none,Nat.zero_le _,rfl,rfl,⟨rfl,by intro f j e; cases e⟩,st3⟩
 case round =>
  obtain ⟨k,s,hk,rfl,rfl,⟨hs,hrt⟩,st⟩:=hrel;obtain ⟨hv,hhv⟩:∃y,y=heldV id s:=⟨_,rfl⟩;have BACK:Hid (∀W,BiSt w W hv→BiSt w W (heldV id s)):=hide (by subst hhv; exact fun W h=>h);rw [← hhv] at st;have HHV:=hide hhv;have HRT:=hide hrt;clear hhv hrt;by_cases hlt:k < n
  ·obtain ⟨x,b,off,hx,rfl,c0,c1,c2,c3,c4,c5,c6,c7⟩:=pt_at (h.below st.below) k hlt;have hnx:=zdq (id:=id) hx;rw [hs] at hnx;have i1:(0:Int)≤(k:Int):=by omega
   have i2:(k:Int) < (n:Int):=by omega
   have NX:=hide hnx;have ST:=hide st;clear hs hnx hx st;(go_wp2_with fail);refine (ze5 x _).mono ?_;rintro e w4 ⟨rfl,hb4⟩;have st4:=(ST.out.later (zh _ _)).later hb4;clear hb4 c0 c1 c2 c3 c4 c5 c6 c7;generalize hu:overV x=u;generalize hq:overB x=q;have HU:=hide hu;have HQ:=hide hq;clear hu hq;(go_upto_region 6 with fail);generalize hw5:w4.alloc (Obj.cells #[.int .i64 u.r,.int .i64 u.c,.int .i64 u.h,.int .i64 u.b,.int .i64 u.p] 111)=w5;have st5:BiSt w w5 hv:=by rw [← hw5]; exact st4.later (zh _ _)
   have kX:=zk hw5;have hl4:=(Array.getElem?_eq_some_iff.1 st4.best).1;have ne1:¬w4.heap.size=w.heap.size+1:=by omega
   have ne2:¬w.heap.size+1=w4.heap.size:=by omega
   have HL4:=hide hl4;obtain ⟨⟨x0,x1,x2,x3,x4⟩,-⟩:=zt kX;obtain ⟨⟨z0,z1,z2,z3,z4⟩,v0,v1,v2,v3,v4⟩:=zt st5.best;clear st4 hl4 hw5;have ST5:=hide st5;have KX:=hide kX;clear kX st5;cases q
   ·have HE:Hid (zbq id l (k+1)=s):=hide (NX.out.trans (zbh (by rw [zb5,HQ.out]; rfl)));clear v0 v1 v2 v3 v4;go_wp2
    go_roundw
    case rel=>exact ⟨k+1,s,by omega,by go_num,rfl,⟨HE.out,HRT.out⟩,BACK.out _ ST5.out⟩
    case measure=>simp [intOf]; omega
   cases hlr:decide (u.r < id)
   ·have HE:Hid (zbq id l (k+1)=s):=hide (NX.out.trans (zbh (by rw [zb5,HQ.out,HU.out,hlr]; rfl)));have hlr:¬u.r < id:=by simpa using hlr
    clear v0 v1 v2 v3 v4;go_wp2
    go_roundw
    case rel=>exact ⟨k+1,s,by omega,by go_num,rfl,⟨HE.out,HRT.out⟩,BACK.out _ ST5.out⟩
    case measure=>simp [intOf]; omega
   have HO:Hid (offers id x=true):=hide (by rw [zb5,HQ.out,HU.out,hlr]; rfl);have hlr:u.r < id:=by simpa using hlr
   have HLR:=hide hlr;have HSTEP:Hid (zbq id l (k+1)=if lessV u hv=true then some (u,k) else s):=hide (by rw [NX.out,zgj HO.out HRT.out,HU.out,HHV.out]);cases hl:lessV u hv
   ·have HE:Hid (zbq id l (k+1)=s):=hide (by rw [HSTEP.out,hl]; rfl);have HL:Hid (zaM u.r u.c u.b u.p hv.r hv.c hv.b hv.p=false):=hide hl;clear hl v0 v1 v2 v3 v4;(go_wp2_with fail);refine (zba u.r u.c u.h u.b u.p hv.r hv.c hv.h hv.b hv.p _).mono ?_;rintro e wl ⟨rfl,hbl⟩;rw [HL.out];have SL:=hide (ST5.out.later hbl);clear hbl x0 x1 x2 x3 x4 z0 z1 z2 z3 z4;go_wp2
    go_roundw
    case rel=>exact ⟨k+1,s,by omega,by go_num,rfl,⟨HE.out,HRT.out⟩,BACK.out _ SL.out⟩
    case measure=>simp [intOf]; omega
   ·have HE:Hid (zbq id l (k+1)=some (u,k)):=hide (by rw [HSTEP.out,hl]; rfl);have HL:Hid (zaM u.r u.c u.b u.p hv.r hv.c hv.b hv.p=true):=hide hl;clear hl v0 v1 v2 v3 v4;(go_wp2_with fail);refine (zba u.r u.c u.h u.b u.p hv.r hv.c hv.h hv.b hv.p _).mono ?_;rintro e wl ⟨rfl,hbl⟩;rw [HL.out];have stl:=ST5.out.later hbl;have kX:=ze KX.out hbl;clear hbl x0 x1 x2 x3 x4 z0 z1 z2 z3 z4;obtain ⟨⟨x0,x1,x2,x3,x4⟩,-⟩:=zt kX;obtain ⟨⟨z0,z1,z2,z3,z4⟩,v0,v1,v2,v3,v4⟩:=zt stl.best;have HSET:Hid (BiSt w _ u):=hide (stl.set u);clear stl kX;go_wp2
    go_roundw
    case rel=>exact ⟨k+1,some (u,k),by omega,by go_num,rfl,⟨HE.out,fun f j e=>by cases e; exact HLR.out⟩,HSET.out⟩
    case measure=>simp [intOf]; omega
  ·have hkn:k=n:=by omega
   subst hkn;have HB:Hid (zK id l=s):=hide (by unfold zK; rw [hsz.out]; exact hs);have HBV:Hid (bestV id s=⟨hv.r,hv.c,hv.h,id,0⟩):=hide (by rw [HHV.out]; cases s <;> rfl);obtain ⟨⟨x0,x1,x2,x3,x4⟩,y0,y1,y2,y3,y4⟩:=zt st.best;obtain ⟨⟨r0,r1,r2,r3,r4⟩,z0,z1,z2,z3,z4⟩:=zt st.res;have ne:¬w.heap.size=w.heap.size+1:=by omega
   have hb:=zZ (zg (zg st.below (g:=w.heap.size+1) (by omega) 3 (.int .i64 id)) (g:=w.heap.size+1) (by omega) 4 (.int .i64 0)) (Nat.le_refl w.heap.size) (.int .i64 hv.r) (.int .i64 hv.c) (.int .i64 hv.h) (.int .i64 id) (.int .i64 0);clear hs st;go_wp2;exact bodyPost_ret (v:=.tuple #[.agg #[.int .i64 hv.r,.int .i64 hv.c,.int .i64 hv.h,.int .i64 id,.int .i64 0],.int .i64 (bestP s)]) (by simp [results,Tryz.results268,go_sem, *]) rfl ⟨(by rw [HB.out,HBV.out]),hb⟩

end Go.Proofs.YtcpdkcdfnpcemaaGreat
