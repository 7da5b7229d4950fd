/-
  Packed: NetUp NetMath NetUsed NetOkS.
-/
import Derived.Test.YtkaefmfopejbaaaGreatPAK15
namespace Go.Proofs.YtkaefmfopejbaaaGreat
set_option maxRecDepth 100000
set_option maxHeartbeats 16000000
open Go.RowKit

def zad (bs:List BR) (b p:Int):Option PT:=if 0≤b∧0≤p then (bs[b.toNat]?).bind (fun B=>B.ports[p.toNat]?) else none
def upAt (bs:List BR) (b p:Int):Bool:=match zad bs b p with
 | some x=>x.up
 | none=>false
def zT (bs:List BR) (ls:List LK) (k:Int):Bool:=if 0≤k then (match ls[k.toNat]? with
 | some x=>upAt bs x.a x.p && upAt bs x.b x.q
 | none=>false) else false

theorem zfc {N:NV} {k:Nat} {x:BV} (h:N.bs[k]? = some x):N.brs[k]? = some x.B:=by unfold NV.brs; rw [List.getElem?_map,h]; rfl
theorem zc0 (N:NV):N.brs.length=N.bs.length:=by unfold NV.brs; simp

theorem ziL {bs:List BR} {b p:Int} (h:(decide (0≤b) && decide (b≤(bs.length:Int) - 1))=false):zad bs b p=none:=by
 unfold zad
 split
 ·rename_i hc
  rw [List.getElem?_eq_none (by simp at h; omega)]
  rfl
 ·rfl
theorem zlb {bs:List BR} {k:Nat} {B:BR} (h:bs[k]? = some B) (p:Int):zad bs (k:Int) p=if 0≤p then B.ports[p.toNat]? else none:=by
 unfold zad;by_cases hp:0≤p
 ·rw [if_pos ⟨by omega,hp⟩,if_pos hp,Int.toNat_natCast,h]; rfl
 ·rw [if_neg (fun hc=>hp hc.2),if_neg hp]
theorem zg1 {bs:List BR} {k:Nat} {B:BR} (h:bs[k]? = some B) {p:Int} (hp:(decide (0≤p) && decide (p≤(B.ports.length:Int) - 1))=false):zad bs (k:Int) p=none:=by
 rw [zlb h]
 split
 ·exact List.getElem?_eq_none (by simp at hp; omega)
 ·rfl
theorem zcH {bs:List BR} {k:Nat} {B:BR} (h:bs[k]? = some B) {j:Nat} {y:PT} (hy:B.ports[j]? = some y):zad bs (k:Int) (j:Int)=some y:=by
 rw [zlb h,if_pos (by omega),Int.toNat_natCast,hy]

theorem zgD (N:NV) (b p:Int) (w:World) (h:zaa w N) :
  Calls Tryz.prog 55 #[.agg #[.slice N.ba N.bn N.bc,.slice N.la N.ln N.lc,.slice N.sa N.sn N.sc],.int .i64 b,.int .i64 p] w fun e w'=>e=.returned (.bool (upAt N.brs b p))∧Below w.heap.size w w':=by
 have hle:=Nat.le_trans h.b.le h.b.top;unfold maxLen at hle;have hsz:=h.b.size;generalize hG:upAt N.brs b p=U;have HG:=hide hG;clear hG;generalize hw1:w.alloc (Obj.cells #[.slice N.ba N.bn N.bc,.slice N.la N.ln N.lc,.slice N.sa N.sn N.sc] 28)=w1;have b01:=zb hw1;have k1:=zk hw1;obtain ⟨x0,x1,x2⟩:=zd k1;cases hA:(decide (0≤b) && decide (b≤(N.bn:Int) - 1))
 ·have HF:Hid (U=false):=hide (by rw [← HG.out]; unfold upAt; rw [ziL (by rw [zc0,hsz]; exact hA)]);go_enter Tryz.func55,Tryz.ntmps55;(go_wp2_with fail);refine (zg b 0 ((N.bn:Int) - 1) _).mono ?_;rintro e w2 ⟨rfl,ew⟩;obtain rfl:=ew.symm;rw [hA];clear hA;go_wp2;go_ret;exact ⟨by rw [HF.out]; rfl,b01⟩
 ·obtain ⟨k,rfl⟩:∃k:Nat,b=(k:Int):=⟨b.toNat,by simp at hA; omega⟩;have hk:k < N.bn:=by simp at hA; omega
  obtain ⟨x,bb,off,hx,hba,c0,c1,c2,c3,c4,c5,c6,c7,c8,c9,c10⟩:=br_at (h.b.below b01) k hk;have hm:=List.mem_of_getElem? hx;have hr:=(h.item x hm).below b01;have hpl:=Nat.le_trans hr.ports.le hr.ports.top;unfold maxLen at hpl;have i1:(0:Int)≤(k:Int):=by omega
  have i2:(k:Int) < (N.bn:Int):=by omega
  have HX:=hide (zfc hx);clear hx hm;rw [hba] at x0;cases hB:(decide (0≤p) && decide (p≤(x.n:Int) - 1))
  ·have HF:Hid (U=false):=hide (by rw [← HG.out]; unfold upAt; rw [zg1 HX.out (by rw [hr.ports.size]; exact hB)]);clear hba;go_enter Tryz.func55,Tryz.ntmps55;(go_wp2_with fail);refine (zg (k:Int) 0 ((N.bn:Int) - 1) _).mono ?_;rintro e w2 ⟨rfl,ew⟩;obtain rfl:=ew.symm;rw [hA];clear hA;(go_wp2_with fail);refine (zg p 0 ((x.n:Int) - 1) _).mono ?_;rintro e w2 ⟨rfl,ew⟩;obtain rfl:=ew.symm;rw [hB];clear hB;go_wp2;go_ret;exact ⟨by rw [HF.out]; rfl,b01⟩
  ·obtain ⟨j,rfl⟩:∃j:Nat,p=(j:Int):=⟨p.toNat,by simp at hB; omega⟩;have hj:j < x.n:=by simp at hB; omega
   obtain ⟨y,pb,po,hy,hpa,d0,-⟩:=pt_at hr.ports j hj;have HF:Hid (U=y.up):=hide (by rw [← HG.out]; unfold upAt; rw [zcH HX.out hy]);have i3:(0:Int)≤(j:Int):=by omega
   have i4:(j:Int) < (x.n:Int):=by omega
   rw [hpa] at c2;clear hba hpa;go_enter Tryz.func55,Tryz.ntmps55;(go_wp2_with fail);refine (zg (k:Int) 0 ((N.bn:Int) - 1) _).mono ?_;rintro e w2 ⟨rfl,ew⟩;obtain rfl:=ew.symm;rw [hA];clear hA;(go_wp2_with fail);refine (zg (j:Int) 0 ((x.n:Int) - 1) _).mono ?_;rintro e w2 ⟨rfl,ew⟩;obtain rfl:=ew.symm;rw [hB];clear hB;go_wp2;go_ret;exact ⟨by rw [HF.out]; rfl,b01⟩

theorem zbc (N:NV) (k:Int) (w:World) (h:zaa w N) :
  Calls Tryz.prog 27 #[.agg #[.slice N.ba N.bn N.bc,.slice N.la N.ln N.lc,.slice N.sa N.sn N.sc],.int .i64 k] w fun e w'=>e=.returned (.bool (zT N.brs N.ls k))∧Below w.heap.size w w':=by
 have hle:=Nat.le_trans h.l.le h.l.top;unfold maxLen at hle;have hsz:=h.l.size;generalize hG:zT N.brs N.ls k=U;have HG:=hide hG;clear hG;generalize hw1:w.alloc (Obj.cells #[.slice N.ba N.bn N.bc,.slice N.la N.ln N.lc,.slice N.sa N.sn N.sc] 28)=w1;have b01:=zb hw1;have k1:=zk hw1;obtain ⟨x0,x1,x2⟩:=zd k1;cases hA:(decide (0≤k) && decide (k≤(N.ln:Int) - 1))
 ·have HF:Hid (U=false):=hide (by
   rw [← HG.out];unfold zT
   split
   ·rw [List.getElem?_eq_none (by simp at hA; omega)]
   ·rfl)
  go_enter Tryz.func27,Tryz.ntmps27;(go_wp2_with fail);refine (zg k 0 ((N.ln:Int) - 1) _).mono ?_;rintro e w2 ⟨rfl,ew⟩;obtain rfl:=ew.symm;rw [hA];clear hA;go_wp2;go_ret;exact ⟨by rw [HF.out]; rfl,b01⟩
 ·obtain ⟨j,rfl⟩:∃j:Nat,k=(j:Int):=⟨k.toNat,by simp at hA; omega⟩;have hj:j < N.ln:=by simp at hA; omega
  obtain ⟨x,lb,off,hx,hla,a0,a1,a2,a3⟩:=zao (h.l.below b01) j hj;have HF:Hid (U=(upAt N.brs x.a x.p && upAt N.brs x.b x.q)):=hide (by rw [← HG.out]; unfold zT; rw [if_pos (by omega),Int.toNat_natCast,hx]);have i1:(0:Int)≤(j:Int):=by omega
  have i2:(j:Int) < (N.ln:Int):=by omega
  have y1:=x1;rw [hla] at y1;clear hx;have HLA:=hide hla;clear hla x1;go_enter Tryz.func27,Tryz.ntmps27;(go_wp2_with fail);refine (zg (j:Int) 0 ((N.ln:Int) - 1) _).mono ?_;rintro e w2 ⟨rfl,ew⟩;obtain rfl:=ew.symm;rw [hA];clear hA;generalize hwa:w1.alloc (Obj.cells #[.int .i64 x.a,.int .i64 x.p,.int .i64 x.b,.int .i64 x.q] 66)=wa;have ba:=zb hwa;have ka:=zk hwa;have kNe:=za k1 ba;have b0a:=zc b01 ba;obtain ⟨z0,z1,z2⟩:=zd kNe;obtain ⟨u0,u1,u2,u3⟩:=zE ka;(go_wp2_with fail);refine (zgD N x.a x.p _ (h.below b0a)).mono ?_;rintro e w3 ⟨rfl,hb3⟩;have kNe:=za kNe hb3;have ka:=za ka hb3;have b03:=zc b0a hb3;clear z0 z1 z2 u0 u1 u2 u3 a0 a1 a2 a3 x0 x2 y1 hwa hb3 ba;generalize hR:w1.heap.size=R at *;obtain ⟨z0,z1,z2⟩:=zd kNe;obtain ⟨u0,u1,u2,u3⟩:=zE ka;cases hU:upAt N.brs x.a x.p
  ·have HF:Hid (U=false):=hide (by rw [HF.out,hU]; rfl);go_wp2;go_ret;exact ⟨by rw [HF.out]; rfl,b03⟩
  ·have HF:Hid (U=upAt N.brs x.b x.q):=hide (by rw [HF.out,hU]; rfl);(go_wp2_with fail);refine (zgD N x.b x.q _ (h.below b03)).mono ?_;rintro e w4 ⟨rfl,hb4⟩;have HB:=hide (zc b03 hb4);clear z0 z1 z2 u0 u1 u2 u3 hb4;go_wp2;go_ret;exact ⟨by rw [HF.out]; rfl,HB.out⟩

theorem zhx (a:Option Addr) (n c:Nat) (port:Int) (w:World) (hn:n≤9223372036854775807) :
  Calls Tryz.prog 89 #[.slice a n c,.int .i64 port] w fun e w'=>e=.returned (.bool (decide (0≤port) && decide (port≤(n:Int) - 1)))∧w'=w:=by
 go_enter Tryz.func89,Tryz.ntmps89;go_wp2_with fail
 refine (zP port 0 ((n:Int) - 1) _).mono ?_;rintro r w3 ⟨rfl,ew⟩;obtain rfl:=ew.symm;go_wp2;go_ret;exact ⟨rfl,rfl⟩

theorem zfb (N:NV) (b:Int) (w:World) (hle:N.bn≤9223372036854775807) (hA:(decide (0≤b) && decide (b≤(N.bn:Int) - 1))=false) :
  Calls Tryz.prog 31 #[.agg #[.slice N.ba N.bn N.bc,.slice N.la N.ln N.lc,.slice N.sa N.sn N.sc],.int .i64 b] w fun e w'=>e=.returned (.pointer none)∧Below w.heap.size w w':=by
 generalize hw1:w.alloc (Obj.cells #[.slice N.ba N.bn N.bc,.slice N.la N.ln N.lc,.slice N.sa N.sn N.sc] 28)=w1;have b01:=zb hw1;have k1:=zk hw1;obtain ⟨x0,x1,x2⟩:=zd k1;go_enter Tryz.func31,Tryz.ntmps31;go_wp2_with fail
 refine (zP b 0 ((N.bn:Int) - 1) _).mono ?_;rintro e w2 ⟨rfl,ew⟩;obtain rfl:=ew.symm;rw [hA];clear hA;go_wp2;go_ret;exact ⟨rfl,b01⟩

theorem zbm (N:NV) (k:Nat) (g off:Nat) (w:World) (hle:N.bn≤9223372036854775807) (hk:k < N.bn) (hba:N.ba=some ⟨g,off,none⟩) :
  Calls Tryz.prog 31 #[.agg #[.slice N.ba N.bn N.bc,.slice N.la N.ln N.lc,.slice N.sa N.sn N.sc],.int .i64 (k:Int)] w fun e w'=>e=.returned (.pointer (some ⟨g,off+k*11,none⟩))∧Below w.heap.size w w':=by
 generalize hw1:w.alloc (Obj.cells #[.slice N.ba N.bn N.bc,.slice N.la N.ln N.lc,.slice N.sa N.sn N.sc] 28)=w1;have b01:=zb hw1;have k1:=zk hw1;obtain ⟨x0,x1,x2⟩:=zd k1;have hA:(decide (0≤(k:Int)) && decide ((k:Int)≤(N.bn:Int) - 1))=true:=by simp; omega
 have i1:(0:Int)≤(k:Int):=by omega
 have i2:(k:Int) < (N.bn:Int):=by omega
 rw [hba] at x0;clear hba;go_enter Tryz.func31,Tryz.ntmps31;go_wp2_with fail
 refine (zP (k:Int) 0 ((N.bn:Int) - 1) _).mono ?_;rintro e w2 ⟨rfl,ew⟩;obtain rfl:=ew.symm;rw [hA];clear hA;go_wp2;go_ret;exact ⟨rfl,b01⟩

def PtAt (w:World) (v:Option Addr) (o:Option PT):Prop:=match o with
 | none=>v=none
 | some y=>∃g j:Nat,v=some ⟨g,j,none⟩∧w.cell? ⟨g,j,none⟩=some (.bool y.up)
def PtAll (w:World) (v:Option Addr) (o:Option PT):Prop:=match o with
 | none=>v=none
 | some y=>∃g j:Nat,v=some ⟨g,j,none⟩∧w.cell? ⟨g,j,none⟩=some (.bool y.up)∧w.cell? ⟨g,j+1,none⟩=some (.int .i64 y.k)∧w.cell? ⟨g,j+2,none⟩=some (.bool y.has)∧w.cell? ⟨g,j+3,none⟩=some (.int .i64 y.v.r)∧w.cell? ⟨g,j+4,none⟩=some (.int .i64 y.v.c)∧w.cell? ⟨g,j+5,none⟩=some (.int .i64 y.v.h)∧w.cell? ⟨g,j+6,none⟩=some (.int .i64 y.v.b)∧w.cell? ⟨g,j+7,none⟩=some (.int .i64 y.v.p)
theorem PtAll.upAt {w:World} {v:Option Addr} {o:Option PT} (h:PtAll w v o):PtAt w v o:=by
 cases o with
 | none=>exact h
 | some y =>
  obtain ⟨g,j,e,c,-⟩:=h;exact ⟨g,j,e,c⟩

theorem zgx (N:NV) (b p:Int) (w:World) (h:zaa w N) :
  Calls Tryz.prog 52 #[.agg #[.slice N.ba N.bn N.bc,.slice N.la N.ln N.lc,.slice N.sa N.sn N.sc],.agg #[.int .i64 b,.int .i64 p]] w fun e w'=>∃v,e=.returned (.pointer v)∧PtAll w v (zad N.brs b p)∧Below w.heap.size w w':=by
 have hle:=Nat.le_trans h.b.le h.b.top;unfold maxLen at hle;have hsz:=h.b.size;generalize hw1:w.alloc (Obj.cells #[.slice N.ba N.bn N.bc,.slice N.la N.ln N.lc,.slice N.sa N.sn N.sc] 28)=w1;generalize hw2:w1.alloc (Obj.cells #[.int .i64 b,.int .i64 p] 68)=w2;have b01:=zb hw1;have b12:=zb hw2;have kNe:=za (zk hw1) b12;have kE:=zk hw2;have b02:=zc b01 b12;obtain ⟨x0,x1,x2⟩:=zd kNe;obtain ⟨e0,e1⟩:=zm kE;cases hA:(decide (0≤b) && decide (b≤(N.bn:Int) - 1))
 ·have HF:=hide (ziL (bs:=N.brs) (b:=b) (p:=p) (by rw [zc0,hsz]; exact hA));go_enter Tryz.func52,Tryz.ntmps52;(go_wp2_with fail);refine (zfb N b _ hle hA).mono ?_;rintro e w3 ⟨rfl,hb3⟩;have b03:=zc b02 hb3;clear x0 x1 x2 e0 e1 hb3;have vv:Below w3.heap.size w3 w3.drew:=zq (Below.refl _ _);(go_wp2_with fail);refine wp_region_held_drew (S:=(fun _=>True)) (by kernel_rfl) (trivial) (fun hHeld => ?_);refine kK 0 ?_;refine kK 1 ?_;refine kK 2 ?_;refine kN 3 ?_;refine kN 4 ?_;refine kN 5 ?_;refine kN 6 ?_;refine kN 7 ?_;refine kN 8 ?_;refine kN 9 ?_;refine kN 10 ?_;refine kK 11 ?_;refine wpAnyH_done (by kernel_rfl) ?_ _;have HB:=hide (zc b03 vv);clear hHeld vv;go_wp2;go_ret;exact ⟨none,rfl,by rw [HF.out]; rfl,HB.out⟩
 ·obtain ⟨k,rfl⟩:∃k:Nat,b=(k:Int):=⟨b.toNat,by simp at hA; omega⟩;have hk:k < N.bn:=by simp at hA; omega
  obtain ⟨x,bb,off,hx,hba,cc0,cc1,cc2,-⟩:=br_at h.b k hk;have hr:=h.item x (List.mem_of_getElem? hx);have hpl:=Nat.le_trans hr.ports.le hr.ports.top;unfold maxLen at hpl;have HX:=hide (zfc hx);have HBA:=hide hba;clear hx hA hba;go_enter Tryz.func52,Tryz.ntmps52;(go_wp2_with fail);refine (zbm N k bb off _ hle hk HBA.out).mono ?_;rintro e w3 ⟨rfl,hb3⟩;have b03:=zc b02 hb3;have kE:=za kE hb3;have c2:=(b03.cell (zp cc2)).trans cc2;clear x0 x1 x2 e0 e1 hb3 cc0 cc1 cc2;obtain ⟨e0,e1⟩:=zm kE;generalize hR:w1.heap.size=R at *;have vv:Below w3.heap.size w3 w3.drew:=zq (Below.refl _ _);(go_wp2_with fail);cases hB:(decide (0≤p) && decide (p≤(x.n:Int) - 1))
  ·have HF:=hide (zg1 HX.out (by rw [hr.ports.size]; exact hB));refine wp_region_held_drew (S:=(fun W=>zcc W bb (off+k*11+2) (.slice x.a x.n x.c)∧zcc W R 1 (.int .i64 p))) (by kernel_rfl) (⟨(vv.cell (zp c2)).trans c2,(zm (za kE vv)).2⟩) (fun hHeld => ?_);refine kK 0 ?_;refine kK 1 ?_;refine kK 2 ?_;refine kK 3 ?_;refine kK 4 ?_;refine kK 5 ?_;refine kK 6 ?_;refine kK 7 ?_;refine kK 8 ?_;refine kR 9 fun K hK => ?_
   go_simp;refine (zhx x.a x.n x.c p _ hpl).mono ?_;rintro r wz ⟨rfl,ew⟩;obtain rfl:=ew.symm;rw [hB];(go_wp2_with fail);refine kO hK (⟨(vv.cell (zp c2)).trans c2,(zm (za kE vv)).2⟩) fun hHeld => ?_
   clear hK K;refine kK 10 ?_;refine kK 11 ?_;refine wpAnyH_done (by kernel_rfl) ?_ _;have HB:=hide (zc b03 vv);clear hHeld vv c2 kE;go_wp2;go_ret;exact ⟨none,rfl,by rw [HF.out]; rfl,HB.out⟩
  ·obtain ⟨j,rfl⟩:∃j:Nat,p=(j:Int):=⟨p.toNat,by simp at hB; omega⟩;have hj:j < x.n:=by simp at hB; omega
   obtain ⟨y,pb,po,hy,hpa,d0⟩:=pt_at hr.ports j hj;have HF:=hide (zcH HX.out hy);have i3:(0:Int)≤(j:Int):=by omega
   have i4:(j:Int) < (x.n:Int):=by omega
   have HD:=hide d0;rw [hpa] at c2;clear hpa d0;refine wp_region_held_drew (S:=(fun W=>zcc W bb (off+k*11+2) (.slice (some ⟨pb,po,none⟩) x.n x.c)∧zcc W R 1 (.int .i64 (j:Int)))) (by kernel_rfl) (⟨(vv.cell (zp c2)).trans c2,(zm (za kE vv)).2⟩) (fun hHeld => ?_);refine kK 0 ?_;refine kK 1 ?_;refine kK 2 ?_;refine kK 3 ?_;refine kK 4 ?_;refine kK 5 ?_;refine kK 6 ?_;refine kK 7 ?_;refine kK 8 ?_;refine kR 9 fun K hK => ?_
   go_simp;refine (zhx (some ⟨pb,po,none⟩) x.n x.c (j:Int) _ hpl).mono ?_;rintro r wz ⟨rfl,ew⟩;obtain rfl:=ew.symm;rw [hB];(go_wp2_with fail);refine kO hK (⟨(vv.cell (zp c2)).trans c2,(zm (za kE vv)).2⟩) fun hHeld => ?_
   clear hK K;refine kK 10 ?_;refine kK 11 ?_;refine wpAnyH_done (by kernel_rfl) ?_ _;have HB:=hide (zc b03 (zq vv));have c2:=(vv.cell (zp c2)).trans c2;have e1:=(zm (za kE vv)).2;clear hHeld vv kE hB;(go_wp2_with fail)
   go_region
   go_wp2;go_ret;exact ⟨_,rfl,by rw [HF.out]; exact ⟨_,_,rfl,HD.out⟩,HB.out⟩

theorem zdm (N:NV) (b p:Int) (w:World) (h:zaa w N) :
  Calls Tryz.prog 52 #[.agg #[.slice N.ba N.bn N.bc,.slice N.la N.ln N.lc,.slice N.sa N.sn N.sc],.agg #[.int .i64 b,.int .i64 p]] w fun e w'=>∃v,e=.returned (.pointer v)∧PtAt w v (zad N.brs b p)∧Below w.heap.size w w':=by
 refine (zgx N b p w h).mono ?_;rintro e w1 ⟨v,rfl,hv,hb⟩;exact ⟨v,rfl,hv.upAt,hb⟩

def endsL (ls:List LK):List (Int × Int):=ls.flatMap fun x=>[(x.a,x.p),(x.b,x.q)]
def usedL (ls:List LK) (b p:Int):Nat:=(endsL ls).count (b,p)

def zi0 (bs:List BR):Prop:=∀(i j:Nat) (x y:BR),i < j→bs[i]? = some x→bs[j]? = some y→x.id≠y.id
def zaE (bs:List BR):Prop:=(∀x∈bs,zu x=true)∧zi0 bs∧1≤bs.length∧bs.length≤6
def ze3 (ls:List LK) (i:Nat) (B:BR):Prop:=∀(p:Nat) (x:PT),B.ports[p]? = some x→x.has=true→usedL ls (i:Int) (p:Int)≠0
def Quiet (bs:List BR) (ls:List LK):Prop:=∀(i:Nat) (B:BR),bs[i]? = some B→ze3 ls i B
def zcl (bs:List BR) (x:LK):Prop:=x.a≠x.b∧∃u v,zad bs x.a x.p=some u∧zad bs x.b x.q=some v∧u.up=v.up
def zhi (bs:List BR) (ls:List LK) (x:LK):Prop:=zcl bs x∧usedL ls x.a x.p=1∧usedL ls x.b x.q=1
def zaS (bs:List BR) (ls:List LK):Prop:=ls.length≤9∧∀x∈ls,zhi bs ls x
def SayOk (ls:List LK) (s:SY):Prop:=(decide (0≤s.l) && decide (s.l≤(ls.length:Int) - 1))=true∧okVd s.v=true
def zcW (ls:List LK) (ss:List SY):Prop:=ss.length≤40∧∀s∈ss,SayOk ls s
def NetOk (bs:List BR) (ls:List LK) (ss:List SY):Prop:=zaE bs∧zaS bs ls∧Quiet bs ls∧zcW ls ss

theorem zeX (l l':List LK):endsL (l++l')=endsL l++endsL l':=by simp [endsL]
theorem zdX (x:LK) (l:List LK):endsL (x::l)=(x.a,x.p)::(x.b,x.q)::endsL l:=by simp [endsL]
theorem zdY {ls:List LK} {x:LK} (h:x∈ls):(x.a,x.p)∈endsL ls∧(x.b,x.q)∈endsL ls :=
 ⟨List.mem_flatMap.2 ⟨x,h,by simp⟩,List.mem_flatMap.2 ⟨x,h,by simp⟩⟩
theorem zim (ls:List LK):(endsL ls).length=2*ls.length:=by
 induction ls with
 | nil=>rfl
 | cons x l ih=>rw [zdX]; simp only [List.length_cons,ih]; omega

def hit (b p a q:Int):Nat:=if a=b∧q=p then 1 else 0

theorem zbA {ls:List LK} {k:Nat} {x:LK} (h:ls[k]? = some x) (b p:Int):usedL (ls.take (k+1)) b p=usedL (ls.take k) b p+hit b p x.a x.p+hit b p x.b x.q:=by
 have e:ls.take (k+1)=ls.take k++[x]:=by rw [List.take_add_one,h]; rfl
 unfold usedL hit;rw [e,zeX,List.count_append,zdX];simp only [List.count_cons,endsL,List.flatMap_nil,List.count_nil,beq_iff_eq,Prod.mk.injEq];omega

theorem zly (ls:List LK) (b p:Int):usedL ls b p≤2*ls.length:=by
 unfold usedL;rw [← zim];exact List.count_le_length

theorem zkF (ls:List LK):(endsL ls).Nodup↔∀x∈ls,usedL ls x.a x.p=1∧usedL ls x.b x.q=1:=by
 constructor
 ·intro h x hx;obtain ⟨h1,h2⟩:=zdY hx;have e:=List.nodup_iff_count.1 h;have p1:=List.count_pos_iff.2 h1;have p2:=List.count_pos_iff.2 h2;have e1:=e (x.a,x.p);have e2:=e (x.b,x.q);unfold usedL;exact ⟨by omega,by omega⟩
 ·intro h;refine List.nodup_iff_count.2 fun e => ?_
  by_cases he:e∈endsL ls
  ·obtain ⟨x,hx,hm⟩:=List.mem_flatMap.1 he
   simp at hm
   have h1:=h x hx;unfold usedL at h1;rcases hm with rfl | rfl
   ·omega
   ·omega
  ·rw [List.count_eq_zero_of_not_mem he]; omega

theorem za1 (bs:List BR) (ls:List LK):zaS bs ls↔ls.length≤9∧(∀x∈ls,zcl bs x)∧(endsL ls).Nodup:=by
 rw [zkF];unfold zaS zhi
 constructor
 ·rintro ⟨h1,h2⟩;exact ⟨h1,fun x hx=>(h2 x hx).1,fun x hx=>(h2 x hx).2⟩
 ·rintro ⟨h1,h2,h3⟩;exact ⟨h1,fun x hx=>⟨h2 x hx,h3 x hx⟩⟩

theorem zif (ls:List LK) (b p:Int):zbJ ls b p=none↔usedL ls b p=0:=by
 unfold zbJ usedL;rw [List.findSome?_eq_none_iff,List.count_eq_zero]
 constructor
 ·intro h hm;obtain ⟨x,hx,he⟩:=List.mem_flatMap.1 hm
  have:=h x hx
  unfold za5 at this;simp only [List.mem_cons,Prod.mk.injEq,List.not_mem_nil,or_false] at he;rcases he with ⟨h1,h2⟩ | ⟨h1,h2⟩
  ·rw [if_pos ⟨h1.symm,h2.symm⟩] at this; cases this
  ·split at this
   ·cases this
   ·rw [if_pos ⟨h1.symm,h2.symm⟩] at this; cases this
 ·intro h x hx;obtain ⟨m1,m2⟩:=zdY hx;unfold za5;rw [if_neg,if_neg]
  ·rintro ⟨h1,h2⟩; exact h (by rw [← h1,← h2]; exact m2)
  ·rintro ⟨h1,h2⟩; exact h (by rw [← h1,← h2]; exact m1)

theorem zbM {α:Type} {l:List α} {k:Nat} {x:α} {P:α→Prop} (h:l[k]? = some x) (hp:∀y∈l.take k,P y) (hx:P x):∀y∈l.take (k+1),P y:=by
 rw [List.take_add_one,h];intro y hy;rcases List.mem_append.1 hy with hy | hy
 ·exact hp y hy
 ·have:=List.mem_singleton.1 (by simpa using hy)
  rw [this]; exact hx

theorem zbr (N:NV) (b p:Int) (w:World) (h:zaa w N) (hsm:N.ln≤16777216) :
  Calls Tryz.prog 74 #[.agg #[.slice N.ba N.bn N.bc,.slice N.la N.ln N.lc,.slice N.sa N.sn N.sc],.int .i64 b,.int .i64 p] w fun e w'=>e=.returned (.int .i64 (usedL N.ls b p))∧Below w.heap.size w w':=by
 have hsz:=hide h.l.size;go_enter Tryz.func74,Tryz.ntmps74;go_wp2_with fail
 generalize hw1:w.alloc (Obj.cells #[.slice N.ba N.bn N.bc,.slice N.la N.ln N.lc,.slice N.sa N.sn N.sc] 28)=w1;have b01:=zb hw1;have k1:=zk hw1;clear hw1
 go_loopw [7,8] (fun m i wr=>∃k:Nat,k≤N.ln∧i=.int .i64 k∧m=.int .i64 (usedL (N.ls.take k) b p:Nat)∧wr.heap[w.heap.size]? = some (.cells #[.slice N.ba N.bn N.bc,.slice N.la N.ln N.lc,.slice N.sa N.sn N.sc] 28)∧Below w.heap.size w wr) (fun _ i _=>N.ln - (intOf i).toNat)
 case atStart=>exact ⟨0,Nat.zero_le _,rfl,by simp [usedL,endsL],k1,b01⟩
 case round =>
  obtain ⟨k,hk,rfl,rfl,hbox,hb⟩:=hrel;clear k1 b01;obtain ⟨x0,x1,x2⟩:=zd hbox;by_cases hlt:k < N.ln
  ·obtain ⟨x,lb,off,hx,hla,a0,a1,a2,a3⟩:=zao (h.l.below hb) k hlt;rw [hla] at x1;clear hla;have i1:(0:Int)≤(k:Int):=by omega
   have i2:(k:Int) < (N.ln:Int):=by omega
   have hul:usedL (N.ls.take k) b p≤33554432:=by have:=zly (N.ls.take k) b p; rw [List.length_take] at this; omega
   have HX:=hide hx;have KB:Hid (∀o:Obj,(wr.alloc o).heap[w.heap.size]? = some (.cells #[.slice N.ba N.bn N.bc,.slice N.la N.ln N.lc,.slice N.sa N.sn N.sc] 28)∧Below w.heap.size w (wr.alloc o)):=hide (fun o=>⟨za hbox (zl _ _),zc hb (zl _ _)⟩);clear hx hb hbox;by_cases st:x.a=b∧x.p=p
   ·obtain ⟨s,t⟩:=id st;by_cases uv:x.b=b∧x.q=p
    ·obtain ⟨u,v⟩:=id uv;have HM:Hid (usedL (N.ls.take (k+1)) b p=usedL (N.ls.take k) b p+2):=hide (by rw [zbA HX.out]; unfold hit; rw [if_pos st,if_pos uv]);generalize hU:usedL (N.ls.take k) b p=U at *;go_wp2
     go_roundw
     case rel=>exact ⟨k+1,by omega,by go_num,by rw [HM.out]; go_num,KB.out _⟩
     case measure=>simp [intOf]; omega
    ·by_cases u:x.b=b
     ·have v:¬x.q=p:=fun q=>uv ⟨u,q⟩
      have HM:Hid (usedL (N.ls.take (k+1)) b p=usedL (N.ls.take k) b p+1):=hide (by rw [zbA HX.out]; unfold hit; rw [if_pos st,if_neg uv]);generalize hU:usedL (N.ls.take k) b p=U at *;go_wp2
      go_roundw
      case rel=>exact ⟨k+1,by omega,by go_num,by rw [HM.out]; go_num,KB.out _⟩
      case measure=>simp [intOf]; omega
     ·have HM:Hid (usedL (N.ls.take (k+1)) b p=usedL (N.ls.take k) b p+1):=hide (by rw [zbA HX.out]; unfold hit; rw [if_pos st,if_neg uv]);generalize hU:usedL (N.ls.take k) b p=U at *;go_wp2
      go_roundw
      case rel=>exact ⟨k+1,by omega,by go_num,by rw [HM.out]; go_num,KB.out _⟩
      case measure=>simp [intOf]; omega
   ·by_cases s:x.a=b
    ·have t:¬x.p=p:=fun q=>st ⟨s,q⟩
     by_cases uv:x.b=b∧x.q=p
     ·obtain ⟨u,v⟩:=id uv;have HM:Hid (usedL (N.ls.take (k+1)) b p=usedL (N.ls.take k) b p+1):=hide (by rw [zbA HX.out]; unfold hit; rw [if_neg st,if_pos uv]);generalize hU:usedL (N.ls.take k) b p=U at *;go_wp2
      go_roundw
      case rel=>exact ⟨k+1,by omega,by go_num,by rw [HM.out]; go_num,KB.out _⟩
      case measure=>simp [intOf]; omega
     ·by_cases u:x.b=b
      ·have v:¬x.q=p:=fun q=>uv ⟨u,q⟩
       have HM:Hid (usedL (N.ls.take (k+1)) b p=usedL (N.ls.take k) b p+0):=hide (by rw [zbA HX.out]; unfold hit; rw [if_neg st,if_neg uv]);generalize hU:usedL (N.ls.take k) b p=U at *;go_wp2
       go_roundw
       case rel=>exact ⟨k+1,by omega,by go_num,by rw [HM.out]; go_num,KB.out _⟩
       case measure=>simp [intOf]; omega
      ·have HM:Hid (usedL (N.ls.take (k+1)) b p=usedL (N.ls.take k) b p+0):=hide (by rw [zbA HX.out]; unfold hit; rw [if_neg st,if_neg uv]);generalize hU:usedL (N.ls.take k) b p=U at *;go_wp2
       go_roundw
       case rel=>exact ⟨k+1,by omega,by go_num,by rw [HM.out]; go_num,KB.out _⟩
       case measure=>simp [intOf]; omega
    ·by_cases uv:x.b=b∧x.q=p
     ·obtain ⟨u,v⟩:=id uv;have HM:Hid (usedL (N.ls.take (k+1)) b p=usedL (N.ls.take k) b p+1):=hide (by rw [zbA HX.out]; unfold hit; rw [if_neg st,if_pos uv]);generalize hU:usedL (N.ls.take k) b p=U at *;go_wp2
      go_roundw
      case rel=>exact ⟨k+1,by omega,by go_num,by rw [HM.out]; go_num,KB.out _⟩
      case measure=>simp [intOf]; omega
     ·by_cases u:x.b=b
      ·have v:¬x.q=p:=fun q=>uv ⟨u,q⟩
       have HM:Hid (usedL (N.ls.take (k+1)) b p=usedL (N.ls.take k) b p+0):=hide (by rw [zbA HX.out]; unfold hit; rw [if_neg st,if_neg uv]);generalize hU:usedL (N.ls.take k) b p=U at *;go_wp2
       go_roundw
       case rel=>exact ⟨k+1,by omega,by go_num,by rw [HM.out]; go_num,KB.out _⟩
       case measure=>simp [intOf]; omega
      ·have HM:Hid (usedL (N.ls.take (k+1)) b p=usedL (N.ls.take k) b p+0):=hide (by rw [zbA HX.out]; unfold hit; rw [if_neg st,if_neg uv]);generalize hU:usedL (N.ls.take k) b p=U at *;go_wp2
       go_roundw
       case rel=>exact ⟨k+1,by omega,by go_num,by rw [HM.out]; go_num,KB.out _⟩
       case measure=>simp [intOf]; omega
  ·have hkn:k=N.ln:=by omega
   rw [List.take_of_length_le (by have:=hsz.out; omega)];subst hkn;go_wp2;go_ret;exact ⟨rfl,hb⟩

def endOk (bs:List BR) (ls:List LK) (b p:Int):Bool:=(zad bs b p).isSome && decide (usedL ls b p=1)

theorem zb4 (N:NV) (b p:Int) (w:World) (h:zaa w N) (hsm:N.ln≤16777216) :
  Calls Tryz.prog 99 #[.agg #[.slice N.ba N.bn N.bc,.slice N.la N.ln N.lc,.slice N.sa N.sn N.sc],.int .i64 b,.int .i64 p] w fun e w'=>e=.returned (.bool (endOk N.brs N.ls b p))∧Below w.heap.size w w':=by
 have hle:=Nat.le_trans h.b.le h.b.top;unfold maxLen at hle;have hsz:=h.b.size;generalize hG:endOk N.brs N.ls b p=U;have HG:=hide hG;clear hG;generalize hw1:w.alloc (Obj.cells #[.slice N.ba N.bn N.bc,.slice N.la N.ln N.lc,.slice N.sa N.sn N.sc] 28)=w1;have b01:=zb hw1;have k1:=zk hw1;obtain ⟨x0,x1,x2⟩:=zd k1;cases hA:(decide (0≤b) && decide (b≤(N.bn:Int) - 1))
 ·have HF:Hid (U=false):=hide (by rw [← HG.out]; unfold endOk; rw [ziL (by rw [zc0,hsz]; exact hA)]; rfl);go_enter Tryz.func99,Tryz.ntmps99;(go_wp2_with fail);refine (zg b 0 ((N.bn:Int) - 1) _).mono ?_;rintro e w2 ⟨rfl,ew⟩;obtain rfl:=ew.symm;rw [hA];clear hA;go_wp2;go_ret;exact ⟨by rw [HF.out]; rfl,b01⟩
 ·obtain ⟨k,rfl⟩:∃k:Nat,b=(k:Int):=⟨b.toNat,by simp at hA; omega⟩;have hk:k < N.bn:=by simp at hA; omega
  obtain ⟨x,bb,off,hx,hba,c0,c1,c2,c3,c4,c5,c6,c7,c8,c9,c10⟩:=br_at (h.b.below b01) k hk;have hr:=(h.item x (List.mem_of_getElem? hx)).below b01;have hpl:=Nat.le_trans hr.ports.le hr.ports.top;unfold maxLen at hpl;have i1:(0:Int)≤(k:Int):=by omega
  have i2:(k:Int) < (N.bn:Int):=by omega
  have HX:=hide (zfc hx);have K1:=hide k1;clear hx;rw [hba] at x0;cases hB:(decide (0≤p) && decide (p≤(x.n:Int) - 1))
  ·have HF:Hid (U=false):=hide (by rw [← HG.out]; unfold endOk; rw [zg1 HX.out (by rw [hr.ports.size]; exact hB)]; rfl);clear hba;go_enter Tryz.func99,Tryz.ntmps99;(go_wp2_with fail);refine (zg (k:Int) 0 ((N.bn:Int) - 1) _).mono ?_;rintro e w2 ⟨rfl,ew⟩;obtain rfl:=ew.symm;rw [hA];clear hA;(go_wp2_with fail);refine (zg p 0 ((x.n:Int) - 1) _).mono ?_;rintro e w2 ⟨rfl,ew⟩;obtain rfl:=ew.symm;rw [hB];clear hB;go_wp2;go_ret;exact ⟨by rw [HF.out]; rfl,b01⟩
  ·obtain ⟨j,rfl⟩:∃j:Nat,p=(j:Int):=⟨p.toNat,by simp at hB; omega⟩;have hj:j < x.n:=by simp at hB; omega
   obtain ⟨y,pb,po,hy,-,-⟩:=pt_at hr.ports j hj;have HF:Hid (U=decide (usedL N.ls (k:Int) (j:Int)=1)):=hide (by rw [← HG.out]; unfold endOk; rw [zcH HX.out hy]; rfl);have i3:(0:Int)≤(j:Int):=by omega
   have i4:(j:Int) < (x.n:Int):=by omega
   clear hba hy;go_enter Tryz.func99,Tryz.ntmps99;(go_wp2_with fail);refine (zg (k:Int) 0 ((N.bn:Int) - 1) _).mono ?_;rintro e w2 ⟨rfl,ew⟩;obtain rfl:=ew.symm;rw [hA];clear hA;(go_wp2_with fail);refine (zg (j:Int) 0 ((x.n:Int) - 1) _).mono ?_;rintro e w2 ⟨rfl,ew⟩;obtain rfl:=ew.symm;rw [hB];clear hB;clear x0;obtain ⟨x0,-,-⟩:=zd K1.out;(go_wp2_with fail);refine (zbr N (k:Int) (j:Int) _ (h.below b01) hsm).mono ?_;rintro e w5 ⟨rfl,hb5⟩;have HB:=hide (zc b01 hb5);clear hb5 x0 x1 x2 c0 c1 c2 c3 c4 c5 c6 c7 c8 c9 c10;generalize hV:usedL N.ls (k:Int) (j:Int)=V at *;have HV:Hid (decide ((V:Int)=1)=decide (V=1)):=hide (by by_cases e:V=1 <;> simp [e]; omega);go_wp2;go_ret;exact ⟨by rw [HF.out]; exact zM (by by_cases e:V=1 <;> simp [e] <;> omega),HB.out⟩

theorem bs_at {N:NV} {i:Nat} {y:BR} (hy:N.brs[i]? = some y):∃x,N.bs[i]? = some x∧x.B=y:=by
 unfold NV.brs at hy;rw [List.getElem?_map] at hy;cases hx:N.bs[i]? with
 | none=>rw [hx] at hy; cases hy
 | some x=>rw [hx] at hy; exact ⟨x,rfl,Option.some.inj hy⟩

theorem zaD {P:Prop} (h:¬P):(false=true)↔P:=⟨fun e=>(by cases e),fun p=>absurd p h⟩
theorem zeE {P:Prop} (h:P):(true=true)↔P:=⟨fun _=>h,fun _=>rfl⟩

theorem zfL (N:NV) (w:World) (h:zaa w N) (hsm:N.ln≤16777216) :
  Calls Tryz.prog 98 #[.agg #[.slice N.ba N.bn N.bc,.slice N.la N.ln N.lc,.slice N.sa N.sn N.sc]] w fun e w'=>∃q:Bool,e=.returned (.bool q)∧(q=true↔zaE N.brs∧Quiet N.brs N.ls)∧Below w.heap.size w w':=by
 have hle:=Nat.le_trans h.b.le h.b.top;unfold maxLen at hle;have hsz:=hide h.b.size;go_enter Tryz.func98,Tryz.ntmps98;go_wp2_with fail
 generalize hw1:w.alloc (Obj.cells #[.slice N.ba N.bn N.bc,.slice N.la N.ln N.lc,.slice N.sa N.sn N.sc] 28)=w1;have b01:=zb hw1;have k1:=zk hw1;clear hw1
 go_loopw [3] (fun i wr=>∃k:Nat,k≤N.bn∧i=.int .i64 k∧(∀y∈N.brs.take k,zu y=true)∧(∀(i j:Nat) (x y:BR),i < j→j < k→N.brs[i]? = some x→N.brs[j]? = some y→x.id≠y.id)∧(∀(i:Nat) (B:BR),i < k→N.brs[i]? = some B→ze3 N.ls i B)∧wr.heap[w.heap.size]? = some (.cells #[.slice N.ba N.bn N.bc,.slice N.la N.ln N.lc,.slice N.sa N.sn N.sc] 28)∧Below w.heap.size w wr) (fun i _=>N.bn - (intOf i).toNat)
 case atStart=>exact ⟨0,Nat.zero_le _,rfl,by intro y hy; simp at hy,by intro i j x y _ hj; omega,by intro i B hi; omega,k1,b01⟩
 case round =>
  obtain ⟨k,hk,rfl,hok,hid,hqt,hbox,hb⟩:=hrel;clear k1 b01;obtain ⟨x0,x1,x2⟩:=zd hbox;by_cases hlt:k < N.bn
  ·obtain ⟨x,bb,off,hx,hba,c0,c1,c2,c3,c4,c5,c6,c7,c8,c9,c10⟩:=br_at (h.b.below hb) k hlt;have hG:GRow brF w (some ⟨bb,off,none⟩) N.bn N.bc N.bs:=by rw [← hba]; exact h.b
   have hrow:=h.item x (List.mem_of_getElem? hx);rw [hba] at x0;have HBA:=hide hba;clear hba;have i1:(0:Int)≤(k:Int):=by omega
   have i2:(k:Int) < (N.bn:Int):=by omega
   have HBX:=hide (zfc hx);have HX:=hide hx;have HOK:=hide hok;have HID:=hide hid;have HQT:=hide hqt;have HBOX:=hide hbox;have HB:=hide hb;clear hx hok hid hqt hbox;(go_wp2_with fail);refine (zbg x.a x.n x.c x.fa x.fn x.fc x.ra x.rn x.rc x.oa x.on x.oc x.B _ (hrow.below hb)).mono ?_;rintro e w2 ⟨rfl,hb2⟩;have hb3:=zc HB.out hb2;have hbox3:=za HBOX.out hb2;clear c0 c1 c2 c3 c4 c5 c6 c7 c8 c9 c10 x0 x1 x2 hb hb2 HB HBOX;cases hB:zu x.B
   ·have HNO:Hid ((false=true)↔zaE N.brs∧Quiet N.brs N.ls):=hide (zaD fun hp=>by have:=hp.1.1 x.B (List.mem_of_getElem? HBX.out); rw [hB] at this; cases this);go_wp2;go_ret;exact ⟨false,rfl,HNO.out,hb3⟩
   ·have HOK':=hide (zbM HBX.out HOK.out hB);(go_wp2_with fail)
    go_loopw [4] (fun i wr=>∃m:Nat,m≤k∧i=.int .i64 m∧(∀(i:Nat) (y:BR),i < m→N.brs[i]? = some y→y.id≠x.B.id)∧wr.heap[w.heap.size]? = some (.cells #[.slice N.ba N.bn N.bc,.slice N.la N.ln N.lc,.slice N.sa N.sn N.sc] 28)∧Below w.heap.size w wr) (fun i _=>k - (intOf i).toNat)
    case atStart=>exact ⟨0,Nat.zero_le _,rfl,by intro i y hi; omega,hbox3,hb3⟩
    case round =>
     obtain ⟨m,hm,rfl,hne,hbox4,hb4⟩:=hrel;clear hbox3 hb3;obtain ⟨x0,x1,x2⟩:=zd hbox4;rw [HBA.out] at x0;by_cases hmk:m < k
     ·obtain ⟨y,hy⟩:∃y,N.bs[m]? = some y:=⟨N.bs[m]'(by have:=hsz.out; omega),List.getElem?_eq_getElem (by have:=hsz.out; omega)⟩;have cx:=(zF hG hb4 HX.out).1;have cy:=(zF hG hb4 hy).1;have i3:(0:Int)≤(m:Int):=by omega
      have i4:(m:Int) < (N.bn:Int):=by omega
      have i5:(m:Int) < (k:Int):=by omega
      have HY:=hide (zfc hy);have HB4:=hide (zq hb4);have HBOX4:Hid (wr.drew.heap[w.heap.size]? = some (.cells #[.slice N.ba N.bn N.bc,.slice N.la N.ln N.lc,.slice N.sa N.sn N.sc] 28)):=hide hbox4;have HNE:=hide hne;clear hy hne hb4 hbox4;by_cases he:y.B.id=x.B.id
      ·have HNO:Hid ((false=true)↔zaE N.brs∧Quiet N.brs N.ls):=hide (zaD fun hp=>absurd he (hp.1.2.1 m k _ _ hmk HY.out HBX.out));(go_wp2_with fail)
       go_region
       go_wp2;go_ret;exact ⟨false,rfl,HNO.out,HB4.out⟩
      ·have HNX:Hid (∀(i:Nat) (z:BR),i < m+1→N.brs[i]? = some z→z.id≠x.B.id):=hide (fun i z hi hz=>by
        by_cases him:i=m
        ·subst him; rw [HY.out] at hz; cases hz; exact he
        ·exact HNE.out i z (by omega) hz)
       (go_wp2_with fail)
       go_region
       go_wp2
       go_roundw
       case rel=>exact ⟨m+1,by omega,by go_num,HNX.out,HBOX4.out,HB4.out⟩
       case measure=>simp [intOf]; omega
     ·have hmk':m=k:=by omega
      subst hmk';have HID':Hid (∀(i j:Nat) (u v:BR),i < j→j < m+1→N.brs[i]? = some u→N.brs[j]? = some v→u.id≠v.id):=hide (fun i j u v hij hj hu hv=>by
       by_cases hjm:j=m
       ·subst hjm; rw [HBX.out] at hv; cases hv; exact hne i u hij hu
       ·exact HID.out i j u v hij (by omega) hu hv)
      have hpl:=Nat.le_trans hrow.ports.le hrow.ports.top;unfold maxLen at hpl;clear hne;(go_wp2_with fail)
      go_loopw [5] (fun i wr=>∃p:Nat,p≤x.n∧i=.int .i64 p∧(∀(i:Nat) (y:PT),i < p→x.B.ports[i]? = some y→y.has=true→usedL N.ls (m:Int) (i:Int)≠0)∧wr.heap[w.heap.size]? = some (.cells #[.slice N.ba N.bn N.bc,.slice N.la N.ln N.lc,.slice N.sa N.sn N.sc] 28)∧Below w.heap.size w wr) (fun i _=>x.n - (intOf i).toNat)
      case atStart=>exact ⟨0,Nat.zero_le _,rfl,by intro i y hi; omega,hbox4,hb4⟩
      case round =>
       obtain ⟨p,hp,rfl,hq,hbox5,hb5⟩:=hrel;clear hbox4 hb4 x0 x1 x2;obtain ⟨x0,x1,x2⟩:=zd hbox5;rw [HBA.out] at x0;have cx:=(zF hG hb5 HX.out).2.2.1;by_cases hpn:p < x.n
       ·obtain ⟨y,pb,po,hy,hpa,-,-,d2,-⟩:=pt_at (hrow.ports.below hb5) p hpn;rw [hpa] at cx;clear hpa;have i3:(0:Int)≤(p:Int):=by omega
        have i4:(p:Int) < (x.n:Int):=by omega
        have HQ:=hide hq;have HBOX5:=hide hbox5;have HY:=hide hy;have HB5:=hide hb5;clear hq hbox5 hy;cases hh:y.has
        ·rw [hh] at d2;have HNX:Hid (∀(i:Nat) (z:PT),i < p+1→x.B.ports[i]? = some z→z.has=true→usedL N.ls (m:Int) (i:Int)≠0):=hide (fun i z hi hz hzh=>by
          by_cases hip:i=p
          ·subst hip; rw [HY.out] at hz; cases hz; rw [hh] at hzh; cases hzh
          ·exact HQ.out i z (by omega) hz hzh)
         clear hb5;go_wp2
         go_roundw
         case rel=>exact ⟨p+1,by omega,by go_num,HNX.out,HBOX5.out,HB5.out⟩
         case measure=>simp [intOf]; omega
        ·rw [hh] at d2;have hN:=h.below hb5;(go_wp2_with fail);refine (zbr ⟨some ⟨bb,off,none⟩,N.bn,N.bc,N.bs,N.la,N.ln,N.lc,N.ls,N.sa,N.sn,N.sc,N.ss⟩ (m:Int) (p:Int) _ ⟨hG.below hb5,hN.item,hN.l,hN.s⟩ hsm).mono ?_;rintro e w6 ⟨rfl,hb6⟩;have hbox6:=za HBOX5.out hb6;have hb7:=zc HB5.out hb6;have hul:=zly N.ls (m:Int) (p:Int);rw [h.l.size] at hul;clear x0 x1 x2 d2 cx hb5 hb6 HBOX5 HB5 hN;dsimp only;by_cases hu:usedL N.ls (m:Int) (p:Int)=0
         ·have HNO:Hid ((false=true)↔zaE N.brs∧Quiet N.brs N.ls):=hide (zaD fun hp=>hp.2 m x.B HBX.out p y HY.out hh hu);go_wp2;go_ret;exact ⟨false,rfl,HNO.out,hb7⟩
         ·have hu':¬((usedL N.ls (m:Int) (p:Int):Int)=0):=by omega
          have HNX:Hid (∀(i:Nat) (z:PT),i < p+1→x.B.ports[i]? = some z→z.has=true→usedL N.ls (m:Int) (i:Int)≠0):=hide (fun i z hi hz hzh=>by
           by_cases hip:i=p
           ·subst hip; exact hu
           ·exact HQ.out i z (by omega) hz hzh)
          generalize hU:usedL N.ls (m:Int) (p:Int)=U at *;go_wp2
          go_roundw
          case rel=>exact ⟨p+1,by omega,by go_num,HNX.out,hbox6,hb7⟩
          case measure=>simp [intOf]; omega
       ·have hpx:p=x.n:=by omega
        have HQT':Hid (∀(i:Nat) (B:BR),i < m+1→N.brs[i]? = some B→ze3 N.ls i B):=hide (fun i B hi hB=>by
         by_cases him:i=m
         ·subst him;rw [HBX.out] at hB;cases hB;intro q y hy hyh;exact hq q y (by have:=(List.getElem?_eq_some_iff.1 hy).1; have:=hrow.ports.size; omega) hy hyh
         ·exact HQT.out i B (by omega) hB)
        have HBOX5:=hide hbox5;have HB5:=hide hb5;clear hq hbox5 hb5;go_wp2
        go_roundw
        case rel=>exact ⟨m+1,by omega,by go_num,HOK'.out,HID'.out,HQT'.out,HBOX5.out,HB5.out⟩
        case measure=>simp [intOf]; omega
  ·have hkn:k=N.bn:=by omega
   have hlen:N.brs.length=N.bn:=by rw [zc0]; exact hsz.out
   rw [List.take_of_length_le (by omega)] at hok;have lt_of:∀{i:Nat} {y:BR},N.brs[i]? = some y→i < k:=fun hy=>by have:=(List.getElem?_eq_some_iff.1 hy).1; omega
   have HP:Hid (((decide (1≤(N.bn:Int)) && decide ((N.bn:Int)≤6))=true)↔zaE N.brs∧Quiet N.brs N.ls):=hide (by
    constructor
    ·intro hq
     simp at hq
     exact ⟨⟨hok,fun i j x y hij hx hy=>hid i j x y hij (lt_of hy) hx hy,by omega,by omega⟩,fun i B hB=>hqt i B (lt_of hB) hB⟩
    ·rintro ⟨⟨-,-,h1,h2⟩,-⟩
     simp
     omega)
   clear hok hid hqt lt_of;subst hkn;(go_wp2_with fail);refine (zg (N.bn:Int) 1 6 _).mono ?_;rintro e w2 ⟨rfl,ew⟩;obtain rfl:=ew.symm;generalize hQ:(decide (1≤(N.bn:Int)) && decide ((N.bn:Int)≤6))=Q at *;go_wp2;go_ret;exact ⟨Q,rfl,HP.out,hb⟩

end Go.Proofs.YtkaefmfopejbaaaGreat
