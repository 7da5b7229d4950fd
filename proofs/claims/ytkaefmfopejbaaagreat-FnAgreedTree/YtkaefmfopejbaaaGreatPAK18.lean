/-
  Packed: NetOkJ VlanTab BrInner BrInner2 VlanCopy FdbTab.
-/
import Derived.Test.YtkaefmfopejbaaaGreatPAFdbImplA
import Derived.Test.YtkaefmfopejbaaaGreatPAK05
import Derived.Test.YtkaefmfopejbaaaGreatPAK17
import Derived.Test.YtkaefmfopejbaaaGreatPAVlanOk
import Derived.Laws.CopyRow
import Derived.Lib.AppendZeros
import Derived.Lib.Overlaps
namespace Go.Proofs.YtkaefmfopejbaaaGreat
set_option maxRecDepth 100000
set_option maxHeartbeats 16000000
open Go.RowKit

def endF:Flat (Int × Int) where
 k:=2
 cs:=fun x=>[.int .i64 x.1,.int .i64 x.2]
 len:=fun _=>rfl
 pos:=by decide
 one:=fun _ v hv=>by
  simp only [List.mem_cons,List.not_mem_nil,or_false] at hv;rcases hv with rfl | rfl <;> rfl

theorem znu {w:World} {ao:Option Addr} {len cap:Nat} {l:List (Int × Int)} (h:GRow endF w ao len cap l) (i:Nat) (hi:i < len):∃(x:Int × Int) (b off:Nat),l[i]? = some x∧ao=some ⟨b,off,none⟩∧w.cell? ⟨b,off+i*2,none⟩=some (.int .i64 x.1)∧w.cell? ⟨b,off+i*2+1,none⟩=some (.int .i64 x.2):=by
 obtain ⟨x,b,off,hx,ha,hc⟩:=h.at i hi;exact ⟨x,b,off,hx,ha,hc 0 _ rfl,hc 1 _ rfl⟩

theorem zkD:(Tryz.prog.info? 68).map (fun i=>(i.zero,i.size,i.bytes))=some (some (.agg #[.int .i64 0,.int .i64 0]),endF.k,16):=by kernel_rfl

theorem zje {w:World} {g:Nat} {T:TypeId} {x:LK} (h:w.heap[g]? = some (.cells #[.int .i64 x.a,.int .i64 x.p,.int .i64 x.b,.int .i64 x.q] T)):GRow endF w (some ⟨g,0,none⟩) 2 2 [(x.a,x.p),(x.b,x.q)]:=by
 obtain ⟨c0,c1,c2,c3⟩:=zE h;refine ⟨rfl,Nat.le_refl _,by unfold maxLen; omega,(by intro e; cases e),.inr ⟨g,0,rfl, ?_⟩⟩;intro i y hi j v hv
 match i,hi with
 | 0,hi =>
  cases hi
  match j,hv with
  | 0,hv=>cases hv; exact c0
  | 1,hv=>cases hv; exact c1
 | 1,hi =>
  cases hi
  match j,hv with
  | 0,hv=>cases hv; exact c2
  | 1,hv=>cases hv; exact c3

theorem zaX {w:World} {g:Nat} {o:Obj} (h:w.heap[g]? = some o):g+1≤w.heap.size:=by
 by_cases hg:g < w.heap.size
 ·exact hg
 ·rw [Array.getElem?_eq_none (by omega)] at h; cases h

theorem zdZ {ls:List LK} {k:Nat} {x:LK} (h:ls[k]? = some x):endsL (ls.take (k+1))=endsL (ls.take k)++[(x.a,x.p),(x.b,x.q)]:=by
 rw [List.take_add_one,h,zeX]
 rfl
theorem zdg {ls:List LK} {k:Nat} {x:LK} (h:ls[k]? = some x):endsL ls=endsL (ls.take k)++((x.a,x.p)::(x.b,x.q)::endsL (ls.drop (k+1))):=by
 obtain ⟨hk,rfl⟩:=List.getElem?_eq_some_iff.1 h;rw [← zdX,← zeX,← List.drop_eq_getElem_cons hk,List.take_append_drop]

theorem zhn (a:Option Addr) (n c:Nat) (l:List (Int × Int)) (b p:Int) (w:World) (h:GRow endF w a n c l) :
  Calls Tryz.prog 147 #[.slice a n c,.agg #[.int .i64 b,.int .i64 p]] w fun e w'=>∃k:Int,e=.returned (.int .i64 k)∧(0≤k↔(b,p)∈l)∧Below w.heap.size w w':=by
 have hle:=h.le;have htop:=h.top;unfold maxLen at htop;have hsz:=h.size;have hgd:Tryz.prog.eqGuardType Tryz.prog.depth 68=false:=by kernel_rfl
 generalize hw1:w.alloc (Obj.cells #[.int .i64 b,.int .i64 p] 68)=w1;have b01:=zb hw1;have k1:=zk hw1;go_enter Tryz.func147,Tryz.ntmps147;go_wp2_with fail
 clear hw1
 go_loopw [8] (fun i wr=>∃k:Nat,k≤n∧i=.int .i64 k∧(∀y∈l.take k,¬y=(b,p))∧wr.heap[w.heap.size]? = some (.cells #[.int .i64 b,.int .i64 p] 68)∧Below w.heap.size w wr) (fun i _=>n - (intOf i).toNat)
 case atStart=>exact ⟨0,Nat.zero_le _,rfl,by intro y hy; simp at hy,k1,b01⟩
 case round =>
  obtain ⟨k,hk,rfl,hno,hbox,hb⟩:=hrel;clear k1 b01;obtain ⟨u0,u1⟩:=zm hbox;by_cases hlt:k < n
  ·obtain ⟨x,g,off,hx,rfl,ca0,ca1⟩:=znu (h.below hb) k hlt;have i1:(0:Int)≤(k:Int):=by omega
   have i2:(k:Int) < (n:Int):=by omega
   have HX:=hide hx;have HN:=hide hno;have HB:=hide (zq hb);have HBOX:Hid (wr.drew.heap[w.heap.size]? = some (.cells #[.int .i64 b,.int .i64 p] 68)):=hide hbox;clear hno hb hx hbox;by_cases t1:x=(b,p)
   ·have HF:Hid ((b,p)∈l):=hide (t1▸List.mem_of_getElem? HX.out);have he:∀W,(binOp .eql 68 (.agg #[.int .i64 b,.int .i64 p]) (.agg #[.int .i64 x.1,.int .i64 x.2])).run Tryz.prog W=.ok (.bool true) W:=fun W=>by rw [zet,t1]; simp
    clear t1;(go_wp2_with fail)
    go_region
    go_wp2;go_ret;exact ⟨(k:Int),rfl,⟨fun _=>HF.out,fun _=>by omega⟩,HB.out⟩
   ·have HO:=hide (zbM (P:=fun y=>¬y=(b,p)) HX.out HN.out t1);have he:∀W,(binOp .eql 68 (.agg #[.int .i64 b,.int .i64 p]) (.agg #[.int .i64 x.1,.int .i64 x.2])).run Tryz.prog W=.ok (.bool false) W:=fun W=>by
     rw [zet,show ((b == x.1) && (p == x.2))=false by
      cases h1:(b == x.1) && (p == x.2)
      ·rfl
      ·simp at h1; exact absurd (Prod.ext h1.1.symm h1.2.symm) t1]
    clear t1;(go_wp2_with fail)
    go_region
    go_wp2
    go_roundw
    case rel=>exact ⟨k+1,by omega,by go_num,HO.out,HBOX.out,HB.out⟩
    case measure=>simp [intOf]; omega
  ·have hkn:k=n:=by omega
   rw [List.take_of_length_le (by omega)] at hno;have HN:=hide hno;clear hno;subst hkn;go_wp2;go_ret;exact ⟨-1,rfl,⟨fun e=>by omega,fun hm=>absurd rfl (HN.out _ hm)⟩,hb⟩

theorem zbt (a:Option Addr) (n c:Nat) (l:List (Int × Int)) (b p:Int) (w:World) (h:GRow endF w a n c l) :
  Calls Tryz.prog 113 #[.slice a n c,.agg #[.int .i64 b,.int .i64 p]] w fun e w'=>Says ((b,p)∈l) w e w':=by
 generalize hw1:w.alloc (Obj.cells #[.int .i64 b,.int .i64 p] 68)=w1;have b01:=zb hw1;have k1:=zk hw1;obtain ⟨u0,u1⟩:=zm k1;go_enter Tryz.func113,Tryz.ntmps113;go_wp2_with fail
 refine (zhn a n c l b p _ (h.below b01)).mono ?_;rintro e w2 ⟨k,rfl,hk,hb⟩;have HK:=hide hk;have HB:=hide (zc b01 hb);clear hk hb u0 u1;go_wp2;go_ret;exact ⟨decide (0≤k),zM (by simp),by rw [← HK.out]; simp,HB.out⟩

theorem zgQ (N:NV) (w:World) (h:zaa w N) :
  Calls Tryz.prog 84 #[.agg #[.slice N.ba N.bn N.bc,.slice N.la N.ln N.lc,.slice N.sa N.sn N.sc]] w fun e w'=>Says (zaS N.brs N.ls) w e w':=by
 obtain ⟨ba,bn,bc,bs,la,ln,lc,ls,sa,sn,sc,ss⟩:=N;have hL:=h.l;have hle:=Nat.le_trans hL.le hL.top;unfold maxLen at hle;have hsz:=hL.size;generalize hbR:NV.brs ⟨ba,bn,bc,bs,la,ln,lc,ls,sa,sn,sc,ss⟩=bR;have HBR:=hide hbR;clear hbR;dsimp only at hL hle hsz ⊢;generalize hw1:w.alloc (Obj.cells #[.slice ba bn bc,.slice la ln lc,.slice sa sn sc] 28)=w1;have b01:=zb hw1;have k1:=zk hw1;obtain ⟨x0,x1,x2⟩:=zd k1;by_cases l9:(ln:Int) > 9
 ·have HNO:Hid ((false=true)↔zaS bR ls):=hide (zaD fun hp=>by have:=hp.1; omega);go_enter Tryz.func84,Tryz.ntmps84;go_wp2;go_ret;exact ⟨false,rfl,HNO.out,b01⟩
 go_enter Tryz.func84,Tryz.ntmps84;go_wp2_with fail
 clear x0 x1 x2 hw1
 go_loopw [3,16] (fun t i wr=>∃(k:Nat) (ta:Option Addr) (tc:Nat),k≤ln∧i=.int .i64 k∧t=.slice ta (2*k) tc∧(∀y∈ls.take k,zcl bR y)∧(endsL (ls.take k)).Nodup∧wr.ownsRow (w.heap.size+1) 68 2 (.slice ta (2*k) tc) (2*k) (endF.all (endsL (ls.take k)))∧wr.heap[w.heap.size]? = some (.cells #[.slice ba bn bc,.slice la ln lc,.slice sa sn sc] 28)∧Below w.heap.size w wr) (fun _ i _=>ln - (intOf i).toNat)
 case atStart=>exact ⟨0,none,0,Nat.zero_le _,rfl,rfl,by intro y hy; simp at hy,by simp [endsL],World.ownsRow_nil _ _ _ _,k1,b01⟩
 case round =>
  obtain ⟨k,ta,tc,hk,rfl,rfl,hep,hnd,oT,hbox,hb⟩:=hrel;clear k1 b01;by_cases hlt:k < ln
  ·obtain ⟨x,lb,lo,hx,rfl,a0,a1,a2,a3⟩:=zao (hL.below hb) k hlt;have i1:(0:Int)≤(k:Int):=by omega
   have i2:(k:Int) < (ln:Int):=by omega
   have hmem:=List.mem_of_getElem? hx;have HX:=hide hx;have HEP:=hide hep;have HNDP:=hide hnd;have hN:zaa w ⟨ba,bn,bc,bs,some ⟨lb,lo,none⟩,ln,lc,ls,sa,sn,sc,ss⟩:=h;generalize hwa:wr.alloc (Obj.cells #[.int .i64 x.a,.int .i64 x.p,.int .i64 x.b,.int .i64 x.q] 66)=wa;have ba9:=zb hwa;have ka:=zk hwa;have kNe:=za hbox ba9;have oT:=zh oT ba9;have b0a:=zc hb ba9;obtain ⟨y0,y1,y2,y3⟩:=zE ka;clear hx hep hnd hbox;(go_wp2_with fail);refine (zco x _).mono ?_;rintro e we ⟨rfl,hbe⟩;have kL:=za ka hbe;have kNe:=za kNe hbe;have oT:=zh oT hbe;have b0e:=zc b0a hbe;generalize hRR:wr.heap.size=L at *;clear hwa y0 y1 y2 y3 ka ba9 hbe b0a a0 a1 a2 a3 hb;generalize hwq:we.alloc (Obj.cells #[.int .i64 x.a,.int .i64 x.p,.int .i64 x.b,.int .i64 x.q] 69)=wq;have bq0:=zb hwq;have kE:=zk hwq;have kL:=za kL bq0;have kNe:=za kNe bq0;have oT:=zh oT bq0;have bq:=zc b0e bq0;generalize hEE:we.heap.size=E at *;clear bq0 b0e;(go_upto_region 8 with fail)
   go_cut [7,8] from 22 to 29 (fun s t wx=>∃v1 v2:Option Addr,s=.pointer v1∧t=.pointer v2∧PtAt wx v1 (zad (NV.brs ⟨ba,bn,bc,bs,some ⟨lb,lo,none⟩,ln,lc,ls,sa,sn,sc,ss⟩) x.a x.p)∧PtAt wx v2 (zad (NV.brs ⟨ba,bn,bc,bs,some ⟨lb,lo,none⟩,ln,lc,ls,sa,sn,sc,ss⟩) x.b x.q)∧Below wq.heap.size wq wx)
   case first =>
    have vv:Below wq.heap.size wq wq.drew:=zq (Below.refl _ _);refine wp_region_held_drew (S:=(fun W=>(zcc W w.heap.size 0 (.slice ba bn bc)∧zcc W w.heap.size 1 (.slice (some ⟨lb,lo,none⟩) ln lc)∧zcc W w.heap.size 2 (.slice sa sn sc))∧(zcc W E 0 (.int .i64 x.a)∧zcc W E 1 (.int .i64 x.p)∧zcc W E 2 (.int .i64 x.b)∧zcc W E 3 (.int .i64 x.q)))) (by kernel_rfl) (⟨zd (za kNe vv),zE (za kE vv)⟩) (fun hHeld => ?_);refine kK 0 ?_;refine kK 1 ?_;refine kK 2 ?_;refine kK 4 ?_;refine kK 5 ?_;refine kK 6 ?_;refine kR 3 fun K hK => ?_
    go_simp;refine (zdm ⟨ba,bn,bc,bs,some ⟨lb,lo,none⟩,ln,lc,ls,sa,sn,sc,ss⟩ x.a x.p _ (hN.below (zc bq vv))).mono ?_;rintro r wz ⟨v1,rfl,v1P,hbz⟩;have v1P:=PtAt.later v1P hbz;(try have v2P:=PtAt.later v2P hbz);have vv:=zc vv hbz;(go_wp2_with fail);refine kO hK (⟨zd (za kNe vv),zE (za kE vv)⟩) fun hHeld => ?_
    clear hK K;refine kR 7 fun K hK => ?_
    go_simp;refine (zdm ⟨ba,bn,bc,bs,some ⟨lb,lo,none⟩,ln,lc,ls,sa,sn,sc,ss⟩ x.b x.q _ (hN.below (zc bq vv))).mono ?_;rintro r wz ⟨v2,rfl,v2P,hbz⟩;have v2P:=PtAt.later v2P hbz;(try have v1P:=PtAt.later v1P hbz);have vv:=zc vv hbz;(go_wp2_with fail);refine kO hK (⟨zd (za kNe vv),zE (za kE vv)⟩) fun hHeld => ?_
    clear hK K;refine kK 8 ?_;refine kK 9 ?_;refine wpAnyH_done (by kernel_rfl) ?_ _;clear hHeld;(go_wp2_with fail)
    go_meet
    exact ⟨v1,v2,rfl,rfl,v1P,v2P,vv⟩
   case rest =>
    obtain ⟨v1,v2,rfl,rfl,v1P,v2P,hb9⟩:=hcut;obtain ⟨w9,hw9⟩:∃y,y=wc:=⟨_,rfl⟩;subst hw9;rw [HBR.out] at v1P v2P;have kL:=za kL hb9;have kE:=za kE hb9;have kNe:=za kNe hb9;have oT:=zh oT hb9;have bc9:=zc bq hb9;clear hb9 bq;have vv:Below w9.heap.size w9 w9.drew:=zq (Below.refl _ _);have i4:(2*(k:Nat))+2=2*(k+1):=by omega
    cases hP:zad bR x.a x.p with
    | none =>
     rw [hP] at v1P;have e1:v1=none:=v1P;subst e1;have HNO:Hid ((false=true)↔zaS bR ls):=hide (zaD fun hp=>by
      obtain ⟨u,v,hu,-⟩:=(hp.2 x hmem).1.2;rw [hP] at hu;cases hu)
     clear v1P v2P;(go_wp2_with fail);refine wp_region_held_drew (S:=(fun W=>zcc W L 0 (.int .i64 x.a)∧zcc W L 1 (.int .i64 x.p)∧zcc W L 2 (.int .i64 x.b)∧zcc W L 3 (.int .i64 x.q))) (by kernel_rfl) (zE (za kL vv)) (fun hHeld => ?_);refine kK 0 ?_;refine kK 1 ?_;refine kK 2 ?_;refine kN 3 ?_;refine kN 4 ?_;refine kK 5 ?_;refine kK 6 ?_;refine kN 7 ?_;refine kN 8 ?_;refine kN 9 ?_;refine kN 10 ?_;refine kN 11 ?_;refine kK 12 ?_;refine kK 13 ?_;refine kN 14 ?_;refine kN 15 ?_;refine kN 16 ?_;refine kN 17 ?_;refine kN 18 ?_;refine kN 19 ?_;refine kN 20 ?_;refine kN 21 ?_;refine kN 22 ?_;refine kK 23 ?_;refine wpAnyH_done (by kernel_rfl) ?_ _;have HB:=hide (zc bc9 vv);clear hHeld vv kL;go_wp2;go_ret;exact ⟨false,rfl,HNO.out,HB.out⟩
    | some u =>
     rw [hP] at v1P;obtain ⟨g1,j1,rfl,d1⟩:=v1P;cases hQ:zad bR x.b x.q with
     | none =>
      rw [hQ] at v2P;have e2:v2=none:=v2P;subst e2;have HNO:Hid ((false=true)↔zaS bR ls):=hide (zaD fun hp=>by
       obtain ⟨u,v,-,hv,-⟩:=(hp.2 x hmem).1.2;rw [hQ] at hv;cases hv)
      clear v2P;(go_wp2_with fail);refine wp_region_held_drew (S:=(fun W=>zcc W L 0 (.int .i64 x.a)∧zcc W L 1 (.int .i64 x.p)∧zcc W L 2 (.int .i64 x.b)∧zcc W L 3 (.int .i64 x.q))) (by kernel_rfl) (zE (za kL vv)) (fun hHeld => ?_);refine kK 0 ?_;refine kK 1 ?_;refine kK 2 ?_;refine kK 3 ?_;refine kK 4 ?_;refine kK 5 ?_;refine kK 6 ?_;refine kN 7 ?_;refine kN 8 ?_;refine kN 9 ?_;refine kN 10 ?_;refine kN 11 ?_;refine kK 12 ?_;refine kK 13 ?_;refine kN 14 ?_;refine kN 15 ?_;refine kN 16 ?_;refine kN 17 ?_;refine kN 18 ?_;refine kN 19 ?_;refine kN 20 ?_;refine kN 21 ?_;refine kN 22 ?_;refine kK 23 ?_;refine wpAnyH_done (by kernel_rfl) ?_ _;have HB:=hide (zc bc9 vv);clear hHeld vv kL;go_wp2;go_ret;exact ⟨false,rfl,HNO.out,HB.out⟩
     | some v =>
      rw [hQ] at v2P;obtain ⟨g2,j2,rfl,d2⟩:=v2P;by_cases hab:x.a=x.b
      ·have HNO:Hid ((false=true)↔zaS bR ls):=hide (zaD fun hp=>(hp.2 x hmem).1.1 hab);have HAB:=hide hab;clear hab;(go_wp2_with fail);have hab:=HAB.out;refine wp_region_held_drew (S:=(fun W=>zcc W L 0 (.int .i64 x.a)∧zcc W L 1 (.int .i64 x.p)∧zcc W L 2 (.int .i64 x.b)∧zcc W L 3 (.int .i64 x.q))) (by kernel_rfl) (zE (za kL vv)) (fun hHeld => ?_);refine kK 0 ?_;refine kK 1 ?_;refine kK 2 ?_;refine kK 3 ?_;refine kK 4 ?_;refine kK 5 ?_;refine kK 6 ?_;refine kK 7 ?_;refine kK 8 ?_;refine kK 9 ?_;refine kK 10 ?_;refine kV 11 (.bool true) ?_;refine kK 12 ?_;refine kK 13 ?_;refine kN 14 ?_;refine kN 15 ?_;refine kN 16 ?_;refine kN 17 ?_;refine kN 18 ?_;refine kN 19 ?_;refine kN 20 ?_;refine kN 21 ?_;refine kN 22 ?_;refine kK 23 ?_;refine wpAnyH_done (by kernel_rfl) ?_ _;have HB:=hide (zc bc9 vv);clear hHeld vv kL;go_wp2;go_ret;exact ⟨false,rfl,HNO.out,HB.out⟩
      ·have HNO:Hid (u.up≠v.up→((false=true)↔zaS bR ls)):=hide (fun hne=>zaD fun hp=>by
        obtain ⟨u',v',hu',hv',he⟩:=(hp.2 x hmem).1.2;rw [hP] at hu';rw [hQ] at hv';cases hu';cases hv';exact hne he)
       (go_wp2_with fail);refine wp_region_held_drew (S:=(fun W=>(zcc W L 0 (.int .i64 x.a)∧zcc W L 1 (.int .i64 x.p)∧zcc W L 2 (.int .i64 x.b)∧zcc W L 3 (.int .i64 x.q))∧zcc W g1 j1 (.bool u.up)∧zcc W g2 j2 (.bool v.up))) (by kernel_rfl) (⟨zE (za kL vv),(vv.cell (zp d1)).trans d1,(vv.cell (zp d2)).trans d2⟩) (fun hHeld => ?_);refine kK 0 ?_;refine kK 1 ?_;refine kK 2 ?_;refine kK 3 ?_;refine kK 4 ?_;refine kK 5 ?_;refine kK 6 ?_;refine kK 7 ?_;refine kK 8 ?_;refine kK 9 ?_;refine kK 10 ?_;refine kV 11 (.bool false) ?_;refine kK 12 ?_;refine kK 13 ?_;refine kK 14 ?_;refine kK 15 ?_;refine kK 16 ?_;refine kK 17 ?_;refine kK 18 ?_;refine kK 19 ?_;refine kK 20 ?_;refine kK 21 ?_;refine kK 22 ?_;refine kK 23 ?_;refine wpAnyH_done (by kernel_rfl) ?_ _;have bD:=zc bc9 vv;have kL:=za kL vv;have kE:=za kE vv;have kNe:=za kNe vv;have oT:=zh oT vv;clear hHeld vv d1 d2;have HAB:=hide hab;have HPQ:=hide (And.intro hP hQ);clear hab hP hQ;cases hu:u.up <;> cases hv:v.up
       ·have HE:Hid (zcl bR x):=hide ⟨HAB.out,u,v,HPQ.out.1,HPQ.out.2,by rw [hu,hv]⟩;obtain ⟨e0,e1,e2,e3⟩:=zE kE;(go_wp2_with fail);refine (zbt ta (2*k) tc (endsL (ls.take k)) x.a x.p _ (zC (F:=endF) oT)).mono ?_;rintro e w10 ⟨q1,rfl,hq1,hb10⟩;have kE:=za kE hb10;have kNe:=za kNe hb10;have oT:=zh oT hb10;have bD:=zc bD hb10;clear e0 e1 e2 e3 hb10 kL;have HQ1:=hide hq1;clear hq1;cases q1;rotate_left
        ·have HNO:Hid ((false=true)↔zaS bR ls):=hide (zaD fun hp=>by
          rw [za1] at hp;have hn:=hp.2.2;rw [zdg HX.out] at hn;exact (List.nodup_append.1 hn).2.2 _ (HQ1.out.1 rfl) _ (by simp) rfl)
         go_wp2;go_ret;exact ⟨false,rfl,HNO.out,bD⟩
        obtain ⟨e0,e1,e2,e3⟩:=zE kE;(go_wp2_with fail);refine (zbt ta (2*k) tc (endsL (ls.take k)) x.b x.q _ (zC (F:=endF) oT)).mono ?_;rintro e w11 ⟨q2,rfl,hq2,hb11⟩;have kE:=za kE hb11;have kNe:=za kNe hb11;have oT:=zh oT hb11;have bD:=zc bD hb11;clear e0 e1 e2 e3 hb11;have HQ2:=hide hq2;clear hq2;cases q2;rotate_left
        ·have HNO:Hid ((false=true)↔zaS bR ls):=hide (zaD fun hp=>by
          rw [za1] at hp;have hn:=hp.2.2;rw [zdg HX.out] at hn;exact (List.nodup_append.1 hn).2.2 _ (HQ2.out.1 rfl) _ (by simp) rfl)
         go_wp2;go_ret;exact ⟨false,rfl,HNO.out,bD⟩
        have HND:Hid ((endsL (ls.take (k+1))).Nodup):=hide (by
         rw [zdZ HX.out];refine List.nodup_append.2 ⟨HNDP.out, ?_, ?_⟩
         ·have:=HAB.out
          simp
          intro e; exact absurd e this
         ·intro a ha b hb e;subst e
          simp at hb
          rcases hb with rfl | rfl
          ·have:=HQ1.out.2 ha; cases this
          ·have:=HQ2.out.2 ha; cases this)
        have HEO:=hide (zbM HX.out HEP.out HE.out);have HEN:=hide (zdZ HX.out);have hbz:w.heap.size+1≤w11.heap.size:=zaX kNe;have hlt2:=oT.lt;go_wp2_with (at_builtin; refine zK (F:=endF) _ rfl _ _ 169 68 rfl (w.heap.size+1) Tryz.underlying169 zkD rfl (by decide) _ (2*k) (endsL (ls.take k)) rfl oT (some ⟨E,0,none⟩) 2 2 [(x.a,x.p),(x.b,x.q)] rfl (zje kE) (by omega) hbz ?_)
        intro ta' tc' w12 oT' _ hgr hbl;have HT:Hid (w12.ownsRow (w.heap.size+1) 68 2 (.slice ta' (2*(k+1)) tc') (2*(k+1)) (endF.all (endsL (ls.take (k+1))))):=hide (by rw [HEN.out]; exact oT');have HK:Hid (w12.heap[w.heap.size]? = some (.cells #[.slice ba bn bc,.slice (some ⟨lb,lo,none⟩) ln lc,.slice sa sn sc] 28)):=hide (ze kNe hgr (by intro j e; have:=(hlt2 j e).1; omega));have HB:Hid (Below w.heap.size w w12):=hide (bD.grown hgr bD.size (by intro j e; have:=(hlt2 j e).1; omega));clear oT oT' hgr hbl kE kNe bD hlt2 hbz;go_wp2
        go_roundw
        case rel=>exact ⟨k+1,ta',tc',by omega,by go_num,rfl,HEO.out,HND.out,HT.out,HK.out,HB.out⟩
        case measure=>simp [intOf]; omega
       ·have HNO:=hide (HNO.out (by rw [hu,hv]; simp));go_wp2;go_ret;exact ⟨false,rfl,HNO.out,bD⟩
       ·have HNO:=hide (HNO.out (by rw [hu,hv]; simp));go_wp2;go_ret;exact ⟨false,rfl,HNO.out,bD⟩
       ·have HE:Hid (zcl bR x):=hide ⟨HAB.out,u,v,HPQ.out.1,HPQ.out.2,by rw [hu,hv]⟩;obtain ⟨e0,e1,e2,e3⟩:=zE kE;(go_wp2_with fail);refine (zbt ta (2*k) tc (endsL (ls.take k)) x.a x.p _ (zC (F:=endF) oT)).mono ?_;rintro e w10 ⟨q1,rfl,hq1,hb10⟩;have kE:=za kE hb10;have kNe:=za kNe hb10;have oT:=zh oT hb10;have bD:=zc bD hb10;clear e0 e1 e2 e3 hb10 kL;have HQ1:=hide hq1;clear hq1;cases q1;rotate_left
        ·have HNO:Hid ((false=true)↔zaS bR ls):=hide (zaD fun hp=>by
          rw [za1] at hp;have hn:=hp.2.2;rw [zdg HX.out] at hn;exact (List.nodup_append.1 hn).2.2 _ (HQ1.out.1 rfl) _ (by simp) rfl)
         go_wp2;go_ret;exact ⟨false,rfl,HNO.out,bD⟩
        obtain ⟨e0,e1,e2,e3⟩:=zE kE;(go_wp2_with fail);refine (zbt ta (2*k) tc (endsL (ls.take k)) x.b x.q _ (zC (F:=endF) oT)).mono ?_;rintro e w11 ⟨q2,rfl,hq2,hb11⟩;have kE:=za kE hb11;have kNe:=za kNe hb11;have oT:=zh oT hb11;have bD:=zc bD hb11;clear e0 e1 e2 e3 hb11;have HQ2:=hide hq2;clear hq2;cases q2;rotate_left
        ·have HNO:Hid ((false=true)↔zaS bR ls):=hide (zaD fun hp=>by
          rw [za1] at hp;have hn:=hp.2.2;rw [zdg HX.out] at hn;exact (List.nodup_append.1 hn).2.2 _ (HQ2.out.1 rfl) _ (by simp) rfl)
         go_wp2;go_ret;exact ⟨false,rfl,HNO.out,bD⟩
        have HND:Hid ((endsL (ls.take (k+1))).Nodup):=hide (by
         rw [zdZ HX.out];refine List.nodup_append.2 ⟨HNDP.out, ?_, ?_⟩
         ·have:=HAB.out
          simp
          intro e; exact absurd e this
         ·intro a ha b hb e;subst e
          simp at hb
          rcases hb with rfl | rfl
          ·have:=HQ1.out.2 ha; cases this
          ·have:=HQ2.out.2 ha; cases this)
        have HEO:=hide (zbM HX.out HEP.out HE.out);have HEN:=hide (zdZ HX.out);have hbz:w.heap.size+1≤w11.heap.size:=zaX kNe;have hlt2:=oT.lt;go_wp2_with (at_builtin; refine zK (F:=endF) _ rfl _ _ 169 68 rfl (w.heap.size+1) Tryz.underlying169 zkD rfl (by decide) _ (2*k) (endsL (ls.take k)) rfl oT (some ⟨E,0,none⟩) 2 2 [(x.a,x.p),(x.b,x.q)] rfl (zje kE) (by omega) hbz ?_)
        intro ta' tc' w12 oT' _ hgr hbl;have HT:Hid (w12.ownsRow (w.heap.size+1) 68 2 (.slice ta' (2*(k+1)) tc') (2*(k+1)) (endF.all (endsL (ls.take (k+1))))):=hide (by rw [HEN.out]; exact oT');have HK:Hid (w12.heap[w.heap.size]? = some (.cells #[.slice ba bn bc,.slice (some ⟨lb,lo,none⟩) ln lc,.slice sa sn sc] 28)):=hide (ze kNe hgr (by intro j e; have:=(hlt2 j e).1; omega));have HB:Hid (Below w.heap.size w w12):=hide (bD.grown hgr bD.size (by intro j e; have:=(hlt2 j e).1; omega));clear oT oT' hgr hbl kE kNe bD hlt2 hbz;go_wp2
        go_roundw
        case rel=>exact ⟨k+1,ta',tc',by omega,by go_num,rfl,HEO.out,HND.out,HT.out,HK.out,HB.out⟩
        case measure=>simp [intOf]; omega
  ·have hkn:k=ln:=by omega
   rw [List.take_of_length_le (by omega)] at hep hnd;have HP:Hid (zaS bR ls):=hide ((za1 _ _).2 ⟨by omega,hep,hnd⟩);clear hep hnd oT;subst hkn;go_wp2;go_ret;exact ⟨true,rfl,zeE HP.out,hb⟩

theorem zml {l:List VR} {id:Int} (h:zbK l id=none):rowAt l id = -1:=by unfold rowAt; rw [h]
theorem zlg {l:List VR} {id:Int} {k:Nat} (h:zbK l id=some k):rowAt l id=k:=by unfold rowAt; rw [h]

theorem zch (a:Option Addr) (n c:Nat) (o:Option Addr) (p q:Nat) (v:VT) (ports:Int) (w:World) (h:VTab w a n c o p q v) (hR:∀r∈v.rows,r.Rng) :
  Calls Tryz.prog 144 #[.agg #[.slice a n c,.slice o p q],.int .i64 ports] w fun r w'=>r=.returned (.bool (zau v ports))∧Below w.heap.size w w':=by
 have hle:=h.rows.le;have htop:=h.rows.top;have hle2:=h.own.le;have htop2:=h.own.top;unfold maxLen at htop htop2;have hsz:=hide h.rows.size;have hsz2:=hide h.own.size;generalize hw1:w.alloc (Obj.cells #[Value.slice a n c,Value.slice o p q] 42)=w1;have hW:=zb hw1;obtain ⟨e0,e1⟩:=zay hw1 (Below.refl _ w1);have h:=h.below hW;generalize hV:zau v ports=V;have HV:=hide hV;clear hV;cases t1:(decide (1≤ports) && decide (ports≤6))
 ·have HN:=hide (znh (v:=v) t1);have T1:=hide t1;clear t1;go_enter Tryz.func144,Tryz.ntmps144;go_wp2_with (refine (zaZ ports 1 6 _).mono ?_; rintro r w2 ⟨rfl,e2⟩; obtain rfl:=e2.symm; rw [T1.out])
  go_ret;exact ⟨zM (by rw [← HV.out,HN.out]),hW⟩
 have T1:=hide t1;simp only [Bool.and_eq_true,decide_eq_true_eq] at t1;by_cases t2:(p:Int)=ports
 case neg =>
  have HN:=hide (zmw (v:=v) (ports:=ports) (by rw [hsz2.out]; exact t2));go_enter Tryz.func144,Tryz.ntmps144;go_wp2_with (refine (zaZ ports 1 6 _).mono ?_; rintro r w2 ⟨rfl,e2⟩; obtain rfl:=e2.symm; rw [T1.out])
  go_ret;exact ⟨zM (by rw [← HV.out,HN.out]),hW⟩
 subst t2;by_cases t3:n≤6
 case neg =>
  have HN:=hide (zlD (v:=v) (ports:=p) (by rw [hsz.out]; exact t3));go_enter Tryz.func144,Tryz.ntmps144;go_wp2_with (refine (zaZ (p:Int) 1 6 _).mono ?_; rintro r w2 ⟨rfl,e2⟩; obtain rfl:=e2.symm; rw [T1.out])
  go_ret;exact ⟨zM (by rw [← HV.out,HN.out]),hW⟩
 cases t4:vrises v.rows
 ·have HN:=hide (zlE (v:=v) (ports:=p) t4);have T4:=hide t4;clear t4;go_enter Tryz.func144,Tryz.ntmps144;go_wp2_with (refine (zaZ (p:Int) 1 6 _).mono ?_; rintro r w2 ⟨rfl,e2⟩; obtain rfl:=e2.symm; rw [T1.out])
  refine (zcf a n c o p q _).mono ?_;rintro r w2 ⟨rfl,hb2⟩;(go_wp2_with fail);refine (zc3 a n c v.rows _ (h.rows.below hb2)).mono ?_;rintro r w3 ⟨rfl,hb3⟩;rw [T4.out];have HB:=hide (zc hW (zc hb2 hb3));clear hb2 hb3;go_wp2;go_ret;exact ⟨zM (by rw [← HV.out,HN.out]),HB.out⟩
 have T4:=hide t4;clear t4;go_enter Tryz.func144,Tryz.ntmps144;go_wp2_with (refine (zaZ (p:Int) 1 6 _).mono ?_; rintro r w2 ⟨rfl,e2⟩; obtain rfl:=e2.symm; rw [T1.out])
 refine (zcf a n c o p q _).mono ?_;rintro r w2 ⟨rfl,hb2⟩;go_wp2_with fail
 refine (zc3 a n c v.rows _ (h.rows.below hb2)).mono ?_;rintro r w3 ⟨rfl,hb3⟩;rw [T4.out];have b13:=zc hb2 hb3;obtain ⟨x0,x1⟩:=zay hw1 b13;clear hb2 hb3 e0 e1;go_wp2
 go_loopw [34] (fun i wr=>∃k:Nat,k≤n∧i=.int .i64 k∧zjz (allOf p) v.rows k∧Below w1.heap.size w1 wr) (fun i _=>n - (intOf i).toNat)
 case atStart=>exact ⟨0,Nat.zero_le _,rfl,fun i x hi=>by omega,b13⟩
 case round =>
  obtain ⟨k,hk,rfl,hok,hb⟩:=hrel;by_cases hlt:k < n
  ·obtain ⟨x,b,off,hx,rfl,c0,c1,c2⟩:=zdR (h.rows.below hb) k hlt;have hxr:x.Rng:=hR x (List.mem_of_getElem? hx);cases t5:zbs (allOf p) x
   ·have HN:=hide (zmx (v:=v) (p:=p) hx t5);have T5:=hide t5;have HB:=hide hb;clear t5 hok hb hx x0 x1;(go_wp2_with fail);refine (zdy x p _ hxr (by omega) (by omega)).mono ?_;rintro r w5 ⟨rfl,hb5⟩;rw [T5.out];have HB1:=hide (zc hW (zc HB.out (zc (zl _ _) hb5)));clear hb5 c0 c1 c2;go_wp2;go_ret;exact ⟨zM (by rw [← HV.out,HN.out]),HB1.out⟩
   ·have HO:=hide (ziR hok hx t5);have T5:=hide t5;have HB:=hide hb;clear t5 hok hb hx x0 x1;(go_wp2_with fail);refine (zdy x p _ hxr (by omega) (by omega)).mono ?_;rintro r w5 ⟨rfl,hb5⟩;rw [T5.out];have HB1:=hide (zc HB.out (zc (zl _ _) hb5));clear hb5 c0 c1 c2;go_wp2
    go_roundw
    case rel=>exact ⟨k+1,by omega,by go_num,HO.out,HB1.out⟩
    case measure=>simp [intOf]; omega
  ·have HK:Hid (vokTo (allOf p) v.rows v.rows.length):=hide (zmv (fun i x hi hx=>hok i x (by have:=hsz.out; omega) hx) T4.out);obtain ⟨y0,y1⟩:=zay hw1 hb;have HB:=hide hb;have hkn:k=n:=by omega
   clear hok hb x0 x1;subst hkn;go_wp2
   go_loopw [46] (fun i wr=>∃k:Nat,k≤p∧i=.int .i64 k∧ownTo v k∧Below w1.heap.size w1 wr) (fun i _=>p - (intOf i).toNat)
   case atStart=>exact ⟨0,Nat.zero_le _,rfl,fun i x hi=>by omega,HB.out⟩
   case round =>
    obtain ⟨j,hj,rfl,hto,hb⟩:=hrel;by_cases hlt:j < p
    ·obtain ⟨x,b,off,hx,rfl,c0⟩:=ziv (h.own.below hb) j hlt;obtain ⟨z0,z1⟩:=zay hw1 hb;clear y0 y1;cases hr:zbK v.rows x with
     | none =>
      have HN:=hide (zjI (p:=p) (List.mem_of_getElem? hx) hr);have HA:=hide (zml hr);have HB3:=hide hb;clear hto hb hx hr;(go_wp2_with fail);refine (zd6 a k c v.rows (some ⟨b,off,none⟩) p q x _ (h.rows.below HB3.out)).mono ?_;rintro r w5 ⟨rfl,hb5⟩;rw [HA.out];have HB1:=hide (zc hW (zc HB3.out hb5));clear hb5 c0 z0 z1;go_wp2;go_ret;exact ⟨zM (by rw [← HV.out,HN.out]),HB1.out⟩
     | some i =>
      have HO:=hide (zgw hto hx (by rw [hr]; exact fun h=>by cases h));have HA:=hide (zlg hr);have HB3:=hide hb;have hneg:¬((i:Int) < 0):=by omega
      clear hto hb hx hr;(go_wp2_with fail);refine (zd6 a k c v.rows (some ⟨b,off,none⟩) p q x _ (h.rows.below HB3.out)).mono ?_;rintro r w5 ⟨rfl,hb5⟩;rw [HA.out];have HB1:=hide (zc HB3.out hb5);clear hb5 c0 z0 z1;go_wp2
      go_roundw
      case rel=>exact ⟨j+1,by omega,by go_num,HO.out,HB1.out⟩
      case measure=>simp [intOf]; omega
    ·have HN:Hid (zau v p=true):=hide (zjJ t1.1 t1.2 hsz2.out (by have:=hsz.out; omega) HK.out (zhS hto (by have:=hsz2.out; omega)));have HB3:=hide (zc hW hb);have hjn:j=p:=by omega
     clear hto hb y0 y1;subst hjn;go_wp2;go_ret;exact ⟨zM (by rw [← HV.out,HN.out]),HB3.out⟩

theorem zaF {w:World} {g:Nat} {T:TypeId} {c0 c1 c2 c3 c4 c5 c6 c7 c8 c9 c10 c11:Value} (h:w.heap[g]? = some (.cells #[c0,c1,c2,c3,c4,c5,c6,c7,c8,c9,c10,c11] T)) :
  w.cell? ⟨g,0,none⟩=some c0∧w.cell? ⟨g,1,none⟩=some c1∧w.cell? ⟨g,2,none⟩=some c2∧w.cell? ⟨g,3,none⟩=some c3∧w.cell? ⟨g,4,none⟩=some c4∧w.cell? ⟨g,5,none⟩=some c5∧w.cell? ⟨g,6,none⟩=some c6∧w.cell? ⟨g,7,none⟩=some c7∧w.cell? ⟨g,8,none⟩=some c8∧w.cell? ⟨g,9,none⟩=some c9∧w.cell? ⟨g,10,none⟩=some c10∧w.cell? ⟨g,11,none⟩=some c11:=by
 simp [World.cell?,h]

structure IbSt (w wr:World) (R X:Nat) (zs cs:Array Value) (TR TX:TypeId):Prop where
 box:wr.heap[X]? = some (.cells cs TX)
 res:wr.heap[R]? = some (.cells zs TR)
 below:Below w.heap.size w wr
 hX:w.heap.size≤X
 hR:w.heap.size≤R
 ne:R≠X

theorem IbSt.later {w wr wx:World} {R X:Nat} {zs cs:Array Value} {TR TX:TypeId} (h:IbSt w wr R X zs cs TR TX) (hb:Below wr.heap.size wr wx):IbSt w wx R X zs cs TR TX :=
 ⟨za h.box hb,za h.res hb,zc h.below hb,h.hX,h.hR,h.ne⟩

theorem IbSt.put {w wr:World} {R X:Nat} {zs cs:Array Value} {TR TX:TypeId} (h:IbSt w wr R X zs cs TR TX) (j:Nat) (u:Value) {cs':Array Value} (he:cs.setIfInBounds j u=cs'):IbSt w (wr.setCell ⟨X,j,none⟩ u) R X zs cs' TR TX :=
 ⟨by rw [← he]; exact box11 h.box j u,zar h.res h.ne,zr h.below h.hX j u,h.hX,h.hR,h.ne⟩

theorem IbSt.grown {w wr wx:World} {R X:Nat} {zs cs:Array Value} {TR TX:TypeId} (h:IbSt w wr R X zs cs TR TX) {base k:Nat} {e:TypeId} {v:Value} {n:Nat} {ys:List Value} (ho:wr.ownsRow base e k v n ys) (h1:(e:Nat)≠TX) (h2:(e:Nat)≠TR) (hg:wr.grownBy wx v.ownBlock) (hb:Below w.heap.size wr wx):IbSt w wx R X zs cs TR TX :=
 ⟨ze h.box hg (fun i e=>zA ho h.box h1 i e),ze h.res hg (fun i e=>zA ho h.res h2 i e),h.below.trans hb,h.hX,h.hR,h.ne⟩

theorem IbSt.stay {w wr:World} {R X:Nat} {zs cs:Array Value} {TR TX:TypeId} (h:IbSt w wr R X zs cs TR TX) {base k:Nat} {e:TypeId} {v:Value} {n:Nat} {ys:List Value} (ho:wr.ownsRow base e k v n ys) (hne:(e:Nat)≠TX) (j:Nat) (u:Value):(wr.setCell ⟨X,j,none⟩ u).ownsRow base e k v n ys :=
 zt ho (zj (rb:=X) j u) (zA ho h.box hne)

theorem BrOwn.other {w:World} {base:Nat} {a:Option Addr} {n c:Nat} {fa:Option Addr} {fn fc:Nat} {ra:Option Addr} {rn rc:Nat} {oa:Option Addr} {on oc:Nat} {B:BR} (h:BrOwn w base a n c fa fn fc ra rn rc oa on oc B) {X:Nat} {cs:Array Value} {T:TypeId} (hX:w.heap[X]? = some (.cells cs T)) (h1:(53:Nat)≠T) (h2:(145:Nat)≠T) (h3:(167:Nat)≠T) (h4:(3:Nat)≠T) (j:Nat) (u:Value):BrOwn (w.setCell ⟨X,j,none⟩ u) base a n c fa fn fc ra rn rc oa on oc B :=
 ⟨zt h.ports (zj (rb:=X) j u) (zA h.ports hX h1),zt h.f (zj (rb:=X) j u) (zA h.f hX h2),
  ⟨zt h.v.rows (zj (rb:=X) j u) (zA h.v.rows hX h3),zt h.v.own (zj (rb:=X) j u) (zA h.v.own hX h4),h.v.i64⟩⟩

theorem zit (n:Int) (w:World) (h:n≤1000000) (h0:0≤n) :
  Calls Tryz.prog 149 #[.int .i64 n] w fun e w'=>e=.returned (.int .i64 (zap n))∧w'=w:=by
 by_cases h1:n≥1000000
 ·have e:n=1000000:=by omega
  subst e;rw [show zap 1000000=1000000 from rfl];go_enter Tryz.func149,Tryz.ntmps149;go_wp2;go_ret;exact ⟨rfl,rfl⟩
 ·rw [show zap n=n+1 from if_neg h1];have h1':min (n+1) (1000000:Int)=n+1:=by omega
  go_enter Tryz.func149,Tryz.ntmps149;go_wp2;go_ret;exact ⟨rfl,rfl⟩

theorem zfn (a:Option Addr) (n c:Nat) (port:Int) (w:World) (hn:n≤137438953472) :
  Calls Tryz.prog 89 #[.slice a n c,.int .i64 port] w fun e w'=>e=.returned (.bool (decide (0≤port) && decide (port≤(n:Int) - 1)))∧w'=w:=by
 go_enter Tryz.func89,Tryz.ntmps89;go_wp2_with fail
 refine (zJ port 0 ((n:Int) - 1) _).mono ?_;rintro r w3 ⟨rfl,ew⟩;obtain rfl:=ew.symm;go_wp2;go_ret;exact ⟨rfl,rfl⟩

theorem zis (a:Option Addr) (n c:Nat) (port:Int) (w:World) (hn:n≤137438953472) (h:(decide (0≤port) && decide (port≤(n:Int) - 1))=false) :
  Calls Tryz.prog 115 #[.slice a n c,.int .i64 port] w fun e w'=>e=.returned (.bool false)∧w'=w:=by
 have HH:=hide h;clear h;go_enter Tryz.func115,Tryz.ntmps115;go_wp2_with fail
 refine (zfn a n c port _ hn).mono ?_;rintro r w3 ⟨rfl,ew⟩;obtain rfl:=ew.symm;rw [HH.out];go_wp2;go_ret;exact ⟨rfl,rfl⟩

theorem zhy (a:Option Addr) (n c:Nat) (k:Nat) (l:List PT) (x:PT) (w:World) (h:GRow ptF w a n c l) (hn:n≤137438953472) (hk:k < n) (hx:l[k]? = some x) :
  Calls Tryz.prog 115 #[.slice a n c,.int .i64 k] w fun e w'=>e=.returned (.bool x.up)∧w'=w:=by
 have HH:Hid ((decide (0≤(k:Int)) && decide ((k:Int)≤(n:Int) - 1))=true):=hide (by rw [decide_eq_true (by omega),decide_eq_true (by omega)]; rfl);obtain ⟨x',b,off,hx',rfl,c0,c1,c2,c3,c4,c5,c6,c7⟩:=pt_at h k hk;rw [hx] at hx';cases hx';have i1:(0:Int)≤(k:Int):=by omega
 have i2:(k:Int) < (n:Int):=by omega
 go_enter Tryz.func115,Tryz.ntmps115;go_wp2_with fail
 refine (zfn _ n c (k:Int) _ hn).mono ?_;rintro r w3 ⟨rfl,ew⟩;obtain rfl:=ew.symm;rw [HH.out];go_wp2;go_ret;exact ⟨rfl,rfl⟩

theorem zaP (a:Option Addr) (n c:Nat) (fa:Option Addr) (fn fc:Nat) (ra:Option Addr) (rn rc:Nat) (oa:Option Addr) (on oc:Nat) (B:BR) (w:World) :
  Calls Tryz.prog 47 #[.agg #[.slice a n c,.int .i64 B.id,.string B.name,.slice none 0 0,.slice fa fn fc,.slice ra rn rc,.slice oa on oc,.int .i64 B.ticks,.int .i64 B.parse,.int .i64 B.word,.int .i64 B.drops,.int .i64 B.vers]] w fun e w'=>e=.returned (.agg #[.int .i64 B.id,.string B.name,.slice a n c,.slice fa fn fc,.slice ra rn rc,.slice oa on oc,.int .i64 B.ticks,.int .i64 B.parse,.int .i64 B.word,.int .i64 B.drops,.int .i64 B.vers])∧Below w.heap.size w w':=by
 generalize hw1:w.alloc (Obj.cells #[.slice a n c,.int .i64 B.id,.string B.name,.slice none 0 0,.slice fa fn fc,.slice ra rn rc,.slice oa on oc,.int .i64 B.ticks,.int .i64 B.parse,.int .i64 B.word,.int .i64 B.drops,.int .i64 B.vers] 102)=w1;generalize hw2:w1.alloc (Obj.cells #[.int .i64 0,.string ⟨#[]⟩,.slice none 0 0,.slice none 0 0,.slice none 0 0,.slice none 0 0,.int .i64 0,.int .i64 0,.int .i64 0,.int .i64 0,.int .i64 0] 44)=w2;generalize hw3:w2.alloc (Obj.cells #[.int .i64 B.id,.string B.name,.slice none 0 0,.slice fa fn fc,.slice ra rn rc,.slice oa on oc,.int .i64 B.ticks,.int .i64 B.parse,.int .i64 B.word,.int .i64 B.drops,.int .i64 B.vers] 44)=w3;have b01:=zb hw1;have b12:=zb hw2;have b23:=zb hw3;have z1:w.heap.size < w1.heap.size:=by rw [← hw1]; simp
 have z2:w1.heap.size < w2.heap.size:=by rw [← hw2]; simp
 have k1:=zk hw1;have kA:=za (za k1 b12) b23;obtain ⟨x0,x1,x2,x3,x4,x5,x6,x7,x8,x9,x10,x11⟩:=zaF (za k1 b12);have st:BcSt w w3 w1.heap.size w2.heap.size #[.int .i64 B.id,.string B.name,.slice none 0 0,.slice fa fn fc,.slice ra rn rc,.slice oa on oc,.int .i64 B.ticks,.int .i64 B.parse,.int .i64 B.word,.int .i64 B.drops,.int .i64 B.vers]:=⟨by rw [← hw3]; exact zy _ _,za (zk hw2) b23,zc (zc b01 b12) b23,by omega,Nat.le_of_lt z1,Nat.ne_of_lt z2⟩;have nAX:¬w.heap.size=w2.heap.size:=by omega
 have nXA:¬w2.heap.size=w.heap.size:=by omega
 have nRX:¬w1.heap.size=w2.heap.size:=by omega
 have nXR:¬w2.heap.size=w1.heap.size:=by omega
 clear z1 z2 b01 b12 b23 k1;go_enter Tryz.func47,Tryz.ntmps47;go_upto_region 2 with fail
 clear x0 x1 x2 x3 x4 x5 x6 x7 x8 x9 x10 x11
 try rw [hw3]
 clear hw1 hw2 hw3;generalize hX:w2.heap.size=X at *;generalize hR:w1.heap.size=R at *;have st5:=st.put 2 (.slice a n c) (cs':=#[.int .i64 B.id,.string B.name,.slice a n c,.slice fa fn fc,.slice ra rn rc,.slice oa on oc,.int .i64 B.ticks,.int .i64 B.parse,.int .i64 B.word,.int .i64 B.drops,.int .i64 B.vers]) rfl;have HB:=hide (zam st5.below st5.hR (.int .i64 B.id) (.string B.name) (.slice a n c) (.slice fa fn fc) (.slice ra rn rc) (.slice oa on oc) (.int .i64 B.ticks) (.int .i64 B.parse) (.int .i64 B.word) (.int .i64 B.drops) (.int .i64 B.vers));obtain ⟨x0,x1,x2,x3,x4,x5,x6,x7,x8,x9,x10,x11⟩:=zaF kA;obtain ⟨y0,y1,y2,y3,y4,y5,y6,y7,y8,y9,y10⟩:=zx st.box;obtain ⟨u0,u1,u2,u3,u4,u5,u6,u7,u8,u9,u10⟩:=zx st.res;have g2:=zf st.box 2;have fr:=zf st.res;have fr0:=fr 0;have fr1:=fr 1;have fr2:=fr 2;have fr3:=fr 3;have fr4:=fr 4;have fr5:=fr 5;have fr6:=fr 6;have fr7:=fr 7;have fr8:=fr 8;have fr9:=fr 9;have fr10:=fr 10;clear fr st st5 kA;go_wp2;exact bodyPost_ret (v:=.agg #[.int .i64 B.id,.string B.name,.slice a n c,.slice fa fn fc,.slice ra rn rc,.slice oa on oc,.int .i64 B.ticks,.int .i64 B.parse,.int .i64 B.word,.int .i64 B.drops,.int .i64 B.vers]) (by simp [results,Tryz.results47,go_sem, *]) rfl ⟨rfl,HB.out⟩

theorem zir (base g n cap k:Nat) (l:List PT) (x:PT) (v:VD) (w:World) (h:w.ownsRow base 53 8 (.slice (some ⟨g,0,none⟩) n cap) n (ptF.all (l))) (hx:l[k]? = some x) (hk:k < n) :
  Calls Tryz.prog 116 #[.slice (some ⟨g,0,none⟩) n cap,.int .i64 k,.agg #[.int .i64 v.r,.int .i64 v.c,.int .i64 v.h,.int .i64 v.b,.int .i64 v.p]] w fun e w'=>e=.returned (.tuple #[])∧w'.ownsRow base 53 8 (.slice (some ⟨g,0,none⟩) n cap) n (ptF.all (l.set k ⟨x.up,x.k,true,v⟩))∧w.grownBy w' (some g):=by
 generalize hw1:w.alloc (Obj.cells #[.int .i64 v.r,.int .i64 v.c,.int .i64 v.h,.int .i64 v.b,.int .i64 v.p] 51)=w1;have b01:=zb hw1;have g01:w.grownBy w1 (some g):=by rw [← hw1]; exact World.grownBy_alloc _ _ _
 have k1:=zk hw1;have o1:=zh h b01;have hgl:g < w.heap.size:=(h.lt g rfl).2;have ne1:¬g=w.heap.size:=by omega
 have ne2:¬w.heap.size=g:=by omega
 obtain ⟨⟨x0,x1,x2,x3,x4⟩,-⟩:=zG k1;have i1:(0:Int)≤(k:Int):=by omega
 have i2:(k:Int) < (n:Int):=by omega
 obtain ⟨⟨t0,t1,t2,t3,t4,t5,t6,t7⟩,f0,f1,f2,f3,f4,f5,f6,f7⟩:=zg3 o1 hx;have HA:=hide (zji v o1 hx);have HGA:=hide (zI g01 (zdu (w:=w1) (g:=g) (k:=k) v));clear o1 g01 b01 hx h;go_enter Tryz.func116,Tryz.ntmps116;have HS:=(zG (zd3 k1)).1;go_wp2_with fail
 refine wp_region_held_drew (S:=(fun W=>zcc W w.heap.size 0 (.int .i64 v.r)∧zcc W w.heap.size 1 (.int .i64 v.c)∧zcc W w.heap.size 2 (.int .i64 v.h)∧zcc W w.heap.size 3 (.int .i64 v.b)∧zcc W w.heap.size 4 (.int .i64 v.p))) (by kernel_rfl) (HS) (fun hHeld => ?_);refine kK 0 ?_;refine kK 1 ?_;refine kK 2 ?_;refine kK 3 ?_;refine kK 4 ?_;refine kK 5 ?_;refine kK 6 ?_;refine kR 7 fun K hK => ?_
 go_simp;have HS:=(zG (zd3 (zar (b:=g) (j:=k*8+2) (u:=.bool true) k1 ne2))).1;refine kO hK (HS) fun hHeld => ?_
 clear hK K;refine kK 8 ?_;refine kK 9 ?_;refine kR 10 fun K hK => ?_
 go_simp;have HS:=(zG (zd3 (zar (b:=g) (j:=k*8+7) (u:=.int .i64 v.p) (zar (b:=g) (j:=k*8+6) (u:=.int .i64 v.b) (zar (b:=g) (j:=k*8+5) (u:=.int .i64 v.h) (zar (b:=g) (j:=k*8+4) (u:=.int .i64 v.c) (zar (b:=g) (j:=k*8+3) (u:=.int .i64 v.r) (zar (b:=g) (j:=k*8+2) (u:=.bool true) k1 ne2) ne2) ne2) ne2) ne2) ne2))).1;refine kO hK (HS) fun hHeld => ?_
 clear hK K;refine wpAnyH_done (by kernel_rfl) ?_ _;clear HS hHeld k1;go_wp2
 go_end0
 exact ⟨rfl,zh HA.out (zq (Below.refl _ _)),zgl HGA.out⟩

theorem zgh (ao:Option Addr) (n cap:Nat) (l:List PT) (w:World) (h:GRow ptF w ao n cap l) (hn:n≤16777216) :
  Calls Tryz.prog 80 #[.slice ao n cap] w fun r w'=>∃ao' cap',r=.returned (.slice ao' n cap')∧w'.ownsRow w.heap.size 53 8 (.slice ao' n cap') n (ptF.all l)∧Below w.heap.size w w':=by
 cases ao with
 | none =>
  have hc0:=h.nil rfl;have hn0:n=0:=by have:=h.le; omega
  subst hc0 hn0;have hl:l=[]:=List.eq_nil_of_length_eq_zero h.size;subst hl;have heq:∀W,(binOp .eql 38 (.slice none 0 0) (.slice none 0 0)).run Tryz.prog W=.ok (.bool true) W:=fun _=>by kernel_rfl
  go_enter Tryz.func80,Tryz.ntmps80;go_wp2;go_ret;exact ⟨none,0,rfl,World.ownsRow_nil _ _ _ _,Below.refl _ _⟩
 | some a =>
  have heq:∀W,(binOp .eql 38 (.slice (some a) n cap) (.slice none 0 0)).run Tryz.prog W=.ok (.bool false) W:=fun _=>by kernel_rfl
  go_enter Tryz.func80,Tryz.ntmps80;go_wp2_with (at_builtin; refine zfC _ rfl _ _ rfl w.heap.size _ 0 [] rfl (zaG ptF w _ 53 w.heap.size (zy w _) (Nat.le_refl _)) (some a) n cap l rfl (h.below (zl _ _)) (by omega) (by simp) ?_)
  intro ao' cap' w' how hr hgr hb;have how:w'.ownsRow w.heap.size 53 8 (.slice ao' n cap') n (ptF.all l):=by simpa using how
  have HO:=hide how;have HB:=hide ((zl w _).trans hb);clear how hgr hb hr;go_wp2;go_ret;exact ⟨ao',cap',(by simp),HO.out,HB.out⟩

theorem zjS (ao:Option Addr) (n cap:Nat) (l:List VR) (w:World) (h:GRow vrowF w ao n cap l) (hn:n≤16777216) :
  Calls Tryz.prog 108 #[.slice ao n cap] w fun r w'=>∃ao' cap',r=.returned (.slice ao' n cap')∧w'.ownsRow w.heap.size 167 3 (.slice ao' n cap') n (vrowF.all l)∧Below w.heap.size w w':=by
 cases ao with
 | none =>
  have hc0:=h.nil rfl;have hn0:n=0:=by have:=h.le; omega
  subst hc0 hn0;have hl:l=[]:=List.eq_nil_of_length_eq_zero h.size;subst hl;have heq:∀W,(binOp .eql 40 (.slice none 0 0) (.slice none 0 0)).run Tryz.prog W=.ok (.bool true) W:=fun _=>by kernel_rfl
  go_enter Tryz.func108,Tryz.ntmps108;go_wp2;go_ret;exact ⟨none,0,rfl,World.ownsRow_nil _ _ _ _,Below.refl _ _⟩
 | some a =>
  have heq:∀W,(binOp .eql 40 (.slice (some a) n cap) (.slice none 0 0)).run Tryz.prog W=.ok (.bool false) W:=fun _=>by kernel_rfl
  go_enter Tryz.func108,Tryz.ntmps108;go_wp2_with (at_builtin; refine zK (F:=vrowF) _ rfl _ _ 40 167 rfl w.heap.size Tryz.underlying40 ze1 rfl (by decide) _ 0 [] rfl (zaG vrowF w _ 167 w.heap.size (zy w _) (Nat.le_refl _)) (some a) n cap l rfl (h.below (zl _ _)) (by omega) (by simp) ?_)
  intro ao' cap' w' how hr hgr hb;have how:w'.ownsRow w.heap.size 167 3 (.slice ao' n cap') n (vrowF.all l):=by
   (try simp only [Nat.zero_add,List.nil_append] at how);exact how
  have HO:=hide how;have HB:=hide ((zl w _).trans hb);clear how hgr hb hr;go_wp2;go_ret;exact ⟨ao',cap',(by simp),HO.out,HB.out⟩

theorem zdw (a:Option Addr) (n c:Nat) (o:Option Addr) (p q:Nat) (v:VT) (w:World) (h:VTab w a n c o p q v) (hn:n≤16777216) (hp:p≤16777216) :
  Calls Tryz.prog 82 #[.agg #[.slice a n c,.slice o p q]] w fun r w'=>∃a' c' o' q',r=.returned (.agg #[.slice a' n c',.slice o' p q'])∧VOwn w' w.heap.size a' n c' o' p q' v∧Below w.heap.size w w':=by
 generalize hw1:w.alloc (Obj.cells #[Value.slice a n c,Value.slice o p q] 42)=w1;generalize hw2:w1.alloc (Obj.cells #[Value.slice none 0 0,Value.slice none 0 0] 42)=w2;have s1:w1.heap.size=w.heap.size+1:=by subst hw1; simp
 have s2:w2.heap.size=w.heap.size+1+1:=by subst hw2; simp [s1]
 have hk1:=zk hw2;have b01:=zb hw1;have vb:Below w1.heap.size w1 w2.drew:=by subst hw2; exact zq (zl _ _)
 have bw:Below w.heap.size w w2:=by subst hw2; exact zc b01 (zl _ _)
 have vv:Below w2.heap.size w2 w2.drew:=zq (Below.refl _ _);have HL:Hid (∀b,some w1.heap.size=some b→b < w2.heap.size):=hide (by intro b hb; cases hb; omega);clear s1 s2;go_enter Tryz.func82,Tryz.ntmps82;go_wp2_with fail
 refine wp_region_held_drew (S:=(fun W=>zcc W w.heap.size 0 (.slice a n c)∧zcc W w.heap.size 1 (.slice o p q))) (by kernel_rfl) (zay hw1 vb) (fun hHeld => ?_);refine kK 0 ?_;refine kK 1 ?_;refine kK 3 ?_;refine kK 4 ?_;refine kR 2 fun K hK => ?_
 go_simp;refine (zjS a n c v.rows _ (h.rows.below (zc bw vv)) hn).mono ?_;rintro e wx ⟨aR,cR,rfl,how,hbx⟩;have hR:=zH how (base':=w2.heap.size) vv.size
 try have hI:=zh hI hbx
 have vv:=zc vv hbx;have vb:=zc vb hbx;clear how hbx;go_wp2_with fail
 refine kO hK (zay hw1 vb) fun hHeld => ?_
 clear hK K;refine kR 5 fun K hK => ?_
 go_simp;refine (zjP o p q v.own _ ((h.own.below (zc bw vv)).flat) hp).mono ?_;rintro e wx ⟨aI,cI',rfl,how,hbx⟩;have hI:=zH how (base':=w2.heap.size) vv.size
 try have hR:=zh hR hbx
 have vv:=zc vv hbx;have vb:=zc vb hbx;clear how hbx;go_wp2_with fail
 refine kO hK (zay hw1 vb) fun hHeld => ?_
 clear hK K;refine kK 6 ?_;refine kR 7 fun K hK => ?_
 obtain ⟨⟨g0,g1⟩,f0,f1⟩:=zaC (za hk1 vv);go_simp;have hR:=zL (zL hR (zj (rb:=w1.heap.size) 0 (.slice aR n cR)) HL.out) (zj (rb:=w1.heap.size) 1 (.slice aI p cI')) HL.out;have hI:=zL (zL hI (zj (rb:=w1.heap.size) 0 (.slice aR n cR)) HL.out) (zj (rb:=w1.heap.size) 1 (.slice aI p cI')) HL.out;have vb:=zr (zr vb (Nat.le_refl _) 0 (.slice aR n cR)) (Nat.le_refl _) 1 (.slice aI p cI');refine kO hK (zay hw1 vb) fun hHeld => ?_
 clear hK K;refine wpAnyH_done (by kernel_rfl) ?_ _;have HR:=hide hR;have HI:=hide hI;clear hR hI;go_wp2;refine bodyPost_ret (v:=.agg #[.slice aR n cR,.slice aI p cI']) (by simp [results,Tryz.results82,go_sem, *]) rfl ⟨_,_,_,_,rfl,⟨zH HR.out bw.size,zH (by rw [← zbw]; exact HI.out) bw.size,h.own.byte⟩,zc b01 vb⟩

section
open Go.RowKit Go.Maps

def fkF:Flat FK where
 k:=3
 cs:=fun k=>[.int .i64 k.1,.int .i64 k.2.1,.int .i64 k.2.2]
 len:=fun _=>rfl
 pos:=by decide
 one:=fun _ v hv=>by
  simp only [List.mem_cons,List.not_mem_nil,or_false] at hv;rcases hv with rfl | rfl | rfl <;> rfl

theorem wf_of {n:Int} (h : -9223372036854775808≤n∧n≤9223372036854775807):(Lit.int .i64 n).wf=true:=by
 simp [Lit.wf,IntKind.min,IntKind.max,IntKind.bits,IntKind.signed]
 omega

theorem zmQ:laidOutB Tryz.prog=true:=by kernel_rfl
theorem znx:(224:TypeId) < Tryz.prog.types.size:=of_decide_eq_true (by kernel_rfl)
theorem zmR:(match Tryz.prog.underlying 224 with | some (.array _ _) | some (.struct _)=>true | _=>false)=true:=by kernel_rfl
theorem zmB:Keyed Tryz.prog 224:=Keyed.of_law (deep_law_laid zmQ (m:=2) (by omega) znx (by kernel_rfl) zmR)

def fkV (k:FK):Value:=.agg #[.int .i64 k.1,.int .i64 k.2.1,.int .i64 k.2.2]
def feV (e:FE):Value:=.agg #[.int .i64 e.t,.int .i64 e.m,.int .i64 e.p,.int .i64 e.a,.bool e.s]

theorem zmA (k:FK) (h:FKok k):∃l,keyOf Tryz.prog 224 (fkV k)=some l:=by
 have w1:=wf_of h.1;have w2:=wf_of h.2.1;have w3:=wf_of h.2.2;have h1:Tryz.prog.keyType 224=true:=by kernel_rfl
 have hc3:Tryz.prog.cellsOf 224=3:=by kernel_rfl
 have hc1:Tryz.prog.cellsOf 3=1:=by kernel_rfl
 have h2:(fkV k).formed Tryz.prog 224=true:=by simp [fkV,Value.formed,Tryz.underlying224,hc3]
 obtain ⟨q,hq⟩:∃q,Tryz.prog.types.size=q+1:=⟨Tryz.prog.types.size - 1,by have:0 < Tryz.prog.types.size:=of_decide_eq_true (by kernel_rfl); omega⟩;have h3:Tryz.prog.keyLits (Tryz.prog.types.size+1) 224 (fkV k).cells.toList=some [.int .i64 k.1,.int .i64 k.2.1,.int .i64 k.2.2]:=by
  rw [hq]
  simp [Program.keyLits,fkV,Value.cells,Tryz.underlying224,Tryz.underlying3,hc3,hc1,w1,w2,w3]
 refine ⟨.string (keyBytes [.int .i64 k.1,.int .i64 k.2.1,.int .i64 k.2.2]), ?_⟩;unfold keyOf;rw [Tryz.underlying224];simp only [h1,h2,h3,Bool.and_self,if_true,Option.map_some]

theorem zkL (a b:FK) (h:fkV a=fkV b):a=b:=by
 obtain ⟨a1,a2,a3⟩:=a;obtain ⟨b1,b2,b3⟩:=b
 simp [fkV] at h
 obtain ⟨rfl,rfl,rfl⟩:=h
 rfl

def mE:MK Tryz.prog FK FE where
 T:=220
 K:=224
 E:=145
 law:=zmB
 und:=Tryz.underlying220
 kv:=fkV
 vv:=feV
 ok:=FKok
 key:=zmA
 inj:=zkL
 z:=⟨0,0,0,0,false⟩
 zero:=fun _=>by kernel_rfl

def mC:MK Tryz.prog FK Int where
 T:=231
 K:=224
 E:=3
 law:=zmB
 und:=Tryz.underlying231
 kv:=fkV
 vv:=fun n=>.int .i64 n
 ok:=FKok
 key:=zmA
 inj:=zkL
 z:=0
 zero:=fun _=>by kernel_rfl

structure TabN (N:Nat) (w:World) (base p bm:Nat) (ks:List FK) (g:FK→Option FE):Prop where
 box:∃ao cap,w.heap[p]? = some (.cells #[.slice ao ks.length cap,.map (some bm)] 222)∧w.ownsRow base 224 3 (.slice ao ks.length cap) ks.length (fkF.all ks)
 map:MapIs mE w bm N g
 lp:base≤p
 lb:base≤bm
 oks:∀k∈ks,FKok k
 few:ks.length≤16777216

abbrev Tab:=TabN 16777216

theorem fk_at {w:World} {ao:Option Addr} {len cap:Nat} {l:List FK} (h:GRow fkF w ao len cap l) (i:Nat) (hi:i < len):∃(x:FK) (b off:Nat),l[i]? = some x∧ao=some ⟨b,off,none⟩ ∧
  w.cell? ⟨b,off+i*3,none⟩=some (.int .i64 x.1)∧w.cell? ⟨b,off+i*3+1,none⟩=some (.int .i64 x.2.1)∧w.cell? ⟨b,off+i*3+2,none⟩=some (.int .i64 x.2.2):=by
 obtain ⟨x,b,off,hx,ha,hc⟩:=h.at i hi;exact ⟨x,b,off,hx,ha,hc 0 _ rfl,hc 1 _ rfl,hc 2 _ rfl⟩

theorem znw:(Tryz.prog.info? 224).map (fun i=>(i.zero,i.size,i.bytes))=some (some (.agg #[.int .i64 0,.int .i64 0,.int .i64 0]),fkF.k,24):=by kernel_rfl

theorem zhq (e:FE) (w:World) :
  Calls Tryz.prog 186 #[.agg #[.int .i64 e.t,.int .i64 e.m,.int .i64 e.p,.int .i64 e.a,.bool e.s]] w fun r w'=>r=.returned (.agg #[.int .i64 e.t,.int .i64 e.m,.int .i64 0])∧Below w.heap.size w w':=by
 go_enter Tryz.func186,Tryz.ntmps186;go_wp2;exact bodyPost_ret (v:=.agg #[.int .i64 e.t,.int .i64 e.m,.int .i64 0]) (by simp [results,Tryz.results186,go_sem, *]) rfl ⟨rfl,zab _ _ _⟩

end

end Go.Proofs.YtkaefmfopejbaaaGreat
