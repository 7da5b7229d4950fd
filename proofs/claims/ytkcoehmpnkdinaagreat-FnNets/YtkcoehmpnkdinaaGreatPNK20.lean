/-
  Packed: NetOkJ FdbLearnS FdbSetS FdbRestS.
-/
import Derived.Test.YtkcoehmpnkdinaaGreatPNFdbPutT
import Derived.Test.YtkcoehmpnkdinaaGreatPNK19
namespace Go.Proofs.YtkcoehmpnkdinaaGreat
set_option maxRecDepth 100000
set_option maxHeartbeats 16000000
open Go.RowKit

def endF:Flat (Int × Int) where
 k:=2
 cs:=fun x=>[.int .i64 x.1,.int .i64 x.2]
 len:=fun _=>rfl
 pos:=by decide
 one:=fun _ v hv=>by
  simp only [List.mem_cons,List.not_mem_nil,or_false] at hv;rcases hv with rfl | rfl <;> rfl

theorem zlG {w:World} {ao:Option Addr} {len cap:Nat} {l:List (Int × Int)} (h:GRow endF w ao len cap l) (i:Nat) (hi:i < len):∃(x:Int × Int) (b off:Nat),l[i]? = some x∧ao=some ⟨b,off,none⟩∧w.cell? ⟨b,off+i*2,none⟩=some (.int .i64 x.1)∧w.cell? ⟨b,off+i*2+1,none⟩=some (.int .i64 x.2):=by
 obtain ⟨x,b,off,hx,ha,hc⟩:=h.at i hi;exact ⟨x,b,off,hx,ha,hc 0 _ rfl,hc 1 _ rfl⟩

theorem zjj:(Tryz.prog.info? 67).map (fun i=>(i.zero,i.size,i.bytes))=some (some (.agg #[.int .i64 0,.int .i64 0]),endF.k,16):=by kernel_rfl

theorem zhW {w:World} {g:Nat} {T:TypeId} {x:LK} (h:w.heap[g]? = some (.cells #[.int .i64 x.a,.int .i64 x.p,.int .i64 x.b,.int .i64 x.q] T)):GRow endF w (some ⟨g,0,none⟩) 2 2 [(x.a,x.p),(x.b,x.q)]:=by
 obtain ⟨c0,c1,c2,c3⟩:=zO h;refine ⟨rfl,Nat.le_refl _,by unfold maxLen; omega,(by intro e; cases e),.inr ⟨g,0,rfl, ?_⟩⟩;intro i y hi j v hv
 match i,hi with
 | 0,hi =>
  cases hi
  match j,hv with
  | 0,hv=>cases hv; exact c0
  | 1,hv=>cases hv; exact c1
 | 1,hi =>
  cases hi
  match j,hv with
  | 0,hv=>cases hv; exact c2
  | 1,hv=>cases hv; exact c3

theorem zcB {w:World} {g:Nat} {o:Obj} (h:w.heap[g]? = some o):g+1≤w.heap.size:=by
 by_cases hg:g < w.heap.size
 ·exact hg
 ·rw [Array.getElem?_eq_none (by omega)] at h; cases h

theorem zdz {ls:List LK} {k:Nat} {x:LK} (h:ls[k]? = some x):endsL (ls.take (k+1))=endsL (ls.take k)++[(x.a,x.p),(x.b,x.q)]:=by
 rw [List.take_add_one,h,zek]
 rfl
theorem zcZ {ls:List LK} {k:Nat} {x:LK} (h:ls[k]? = some x):endsL ls=endsL (ls.take k)++((x.a,x.p)::(x.b,x.q)::endsL (ls.drop (k+1))):=by
 obtain ⟨hk,rfl⟩:=List.getElem?_eq_some_iff.1 h;rw [← zdx,← zek,← List.drop_eq_getElem_cons hk,List.take_append_drop]

theorem zgs (a:Option Addr) (n c:Nat) (l:List (Int × Int)) (b p:Int) (w:World) (h:GRow endF w a n c l) :
  Calls Tryz.prog 95 #[.slice a n c,.agg #[.int .i64 b,.int .i64 p]] w fun e w'=>∃k:Int,e=.returned (.int .i64 k)∧(0≤k↔(b,p)∈l)∧Below w.heap.size w w':=by
 have hle:=h.le;have htop:=h.top;unfold maxLen at htop;have hsz:=h.size;have hgd:Tryz.prog.eqGuardType Tryz.prog.depth 67=false:=by kernel_rfl
 generalize hw1:w.alloc (Obj.cells #[.int .i64 b,.int .i64 p] 67)=w1;have b01:=zb hw1;have k1:=zk hw1;go_enter Tryz.func95,Tryz.ntmps95;go_wp2_with fail
 clear hw1
 go_loopw [8] (fun i wr=>∃k:Nat,k≤n∧i=.int .i64 k∧(∀y∈l.take k,¬y=(b,p))∧wr.heap[w.heap.size]? = some (.cells #[.int .i64 b,.int .i64 p] 67)∧Below w.heap.size w wr) (fun i _=>n - (intOf i).toNat)
 case atStart=>exact ⟨0,Nat.zero_le _,rfl,by intro y hy; simp at hy,k1,b01⟩
 case round =>
  obtain ⟨k,hk,rfl,hno,hbox,hb⟩:=hrel;clear k1 b01;obtain ⟨u0,u1⟩:=zJ hbox;by_cases hlt:k < n
  ·obtain ⟨x,g,off,hx,rfl,ca0,ca1⟩:=zlG (h.below hb) k hlt;have i1:(0:Int)≤(k:Int):=by omega
   have i2:(k:Int) < (n:Int):=by omega
   have HX:=hide hx;have HN:=hide hno;have HB:=hide (zr hb);have HBOX:Hid (wr.drew.heap[w.heap.size]? = some (.cells #[.int .i64 b,.int .i64 p] 67)):=hide hbox;clear hno hb hx hbox;by_cases t1:x=(b,p)
   ·have HF:Hid ((b,p)∈l):=hide (t1▸List.mem_of_getElem? HX.out);have he:∀W,(binOp .eql 67 (.agg #[.int .i64 b,.int .i64 p]) (.agg #[.int .i64 x.1,.int .i64 x.2])).run Tryz.prog W=.ok (.bool true) W:=fun W=>by rw [zdT,t1]; simp
    clear t1;(go_wp2_with fail)
    go_region
    go_wp2;go_ret;exact ⟨(k:Int),rfl,⟨fun _=>HF.out,fun _=>by omega⟩,HB.out⟩
   ·have HO:=hide (zbK (P:=fun y=>¬y=(b,p)) HX.out HN.out t1);have he:∀W,(binOp .eql 67 (.agg #[.int .i64 b,.int .i64 p]) (.agg #[.int .i64 x.1,.int .i64 x.2])).run Tryz.prog W=.ok (.bool false) W:=fun W=>by
     rw [zdT,show ((b == x.1) && (p == x.2))=false by
      cases h1:(b == x.1) && (p == x.2)
      ·rfl
      ·simp at h1; exact absurd (Prod.ext h1.1.symm h1.2.symm) t1]
    clear t1;(go_wp2_with fail)
    go_region
    go_wp2
    go_roundw
    case rel=>exact ⟨k+1,by omega,by go_num,HO.out,HBOX.out,HB.out⟩
    case measure=>simp [intOf]; omega
  ·have hkn:k=n:=by omega
   rw [List.take_of_length_le (by omega)] at hno;have HN:=hide hno;clear hno;subst hkn;go_wp2;go_ret;exact ⟨-1,rfl,⟨fun e=>by omega,fun hm=>absurd rfl (HN.out _ hm)⟩,hb⟩

theorem zbk (a:Option Addr) (n c:Nat) (l:List (Int × Int)) (b p:Int) (w:World) (h:GRow endF w a n c l) :
  Calls Tryz.prog 65 #[.slice a n c,.agg #[.int .i64 b,.int .i64 p]] w fun e w'=>Says ((b,p)∈l) w e w':=by
 generalize hw1:w.alloc (Obj.cells #[.int .i64 b,.int .i64 p] 67)=w1;have b01:=zb hw1;have k1:=zk hw1;obtain ⟨u0,u1⟩:=zJ k1;go_enter Tryz.func65,Tryz.ntmps65;go_wp2_with fail
 refine (zgs a n c l b p _ (h.below b01)).mono ?_;rintro e w2 ⟨k,rfl,hk,hb⟩;have HK:=hide hk;have HB:=hide (zc b01 hb);clear hk hb u0 u1;go_wp2;go_ret;exact ⟨decide (0≤k),zH (by simp),by rw [← HK.out]; simp,HB.out⟩

theorem zfV (N:NV) (w:World) (h:zas w N) :
  Calls Tryz.prog 35 #[.agg #[.slice N.ba N.bn N.bc,.slice N.la N.ln N.lc,.slice N.sa N.sn N.sc]] w fun e w'=>Says (zaW N.brs N.ls) w e w':=by
 obtain ⟨ba,bn,bc,bs,la,ln,lc,ls,sa,sn,sc,ss⟩:=N;have hL:=h.l;have hle:=Nat.le_trans hL.le hL.top;unfold maxLen at hle;have hsz:=hL.size;generalize hbR:NV.brs ⟨ba,bn,bc,bs,la,ln,lc,ls,sa,sn,sc,ss⟩=bR;have HBR:=hide hbR;clear hbR;dsimp only at hL hle hsz ⊢;generalize hw1:w.alloc (Obj.cells #[.slice ba bn bc,.slice la ln lc,.slice sa sn sc] 31)=w1;have b01:=zb hw1;have k1:=zk hw1;obtain ⟨x0,x1,x2⟩:=zd k1;by_cases l9:(ln:Int) > 9
 ·have HNO:Hid ((false=true)↔zaW bR ls):=hide (zaC fun hp=>by have:=hp.1; omega);go_enter Tryz.func35,Tryz.ntmps35;go_wp2;go_ret;exact ⟨false,rfl,HNO.out,b01⟩
 go_enter Tryz.func35,Tryz.ntmps35;go_wp2_with fail
 clear x0 x1 x2 hw1
 go_loopw [3,16] (fun t i wr=>∃(k:Nat) (ta:Option Addr) (tc:Nat),k≤ln∧i=.int .i64 k∧t=.slice ta (2*k) tc∧(∀y∈ls.take k,zce bR y)∧(endsL (ls.take k)).Nodup∧wr.ownsRow (w.heap.size+1) 67 2 (.slice ta (2*k) tc) (2*k) (endF.all (endsL (ls.take k)))∧wr.heap[w.heap.size]? = some (.cells #[.slice ba bn bc,.slice la ln lc,.slice sa sn sc] 31)∧Below w.heap.size w wr) (fun _ i _=>ln - (intOf i).toNat)
 case atStart=>exact ⟨0,none,0,Nat.zero_le _,rfl,rfl,by intro y hy; simp at hy,by simp [endsL],World.ownsRow_nil _ _ _ _,k1,b01⟩
 case round =>
  obtain ⟨k,ta,tc,hk,rfl,rfl,hep,hnd,oT,hbox,hb⟩:=hrel;clear k1 b01;by_cases hlt:k < ln
  ·obtain ⟨x,lb,lo,hx,rfl,a0,a1,a2,a3⟩:=zaX (hL.below hb) k hlt;have i1:(0:Int)≤(k:Int):=by omega
   have i2:(k:Int) < (ln:Int):=by omega
   have hmem:=List.mem_of_getElem? hx;have HX:=hide hx;have HEP:=hide hep;have HNDP:=hide hnd;have hN:zas w ⟨ba,bn,bc,bs,some ⟨lb,lo,none⟩,ln,lc,ls,sa,sn,sc,ss⟩:=h;generalize hwa:wr.alloc (Obj.cells #[.int .i64 x.a,.int .i64 x.p,.int .i64 x.b,.int .i64 x.q] 44)=wa;have ba9:=zb hwa;have ka:=zk hwa;have kNe:=za hbox ba9;have oT:=zl oT ba9;have b0a:=zc hb ba9;obtain ⟨y0,y1,y2,y3⟩:=zO ka;clear hx hep hnd hbox;(go_wp2_with fail);refine (zdU x _).mono ?_;rintro e we ⟨rfl,hbe⟩;have kL:=za ka hbe;have kNe:=za kNe hbe;have oT:=zl oT hbe;have b0e:=zc b0a hbe;generalize hRR:wr.heap.size=L at *;clear hwa y0 y1 y2 y3 ka ba9 hbe b0a a0 a1 a2 a3 hb;generalize hwq:we.alloc (Obj.cells #[.int .i64 x.a,.int .i64 x.p,.int .i64 x.b,.int .i64 x.q] 68)=wq;have bq0:=zb hwq;have kE:=zk hwq;have kL:=za kL bq0;have kNe:=za kNe bq0;have oT:=zl oT bq0;have bq:=zc b0e bq0;generalize hEE:we.heap.size=E at *;clear bq0 b0e;(go_upto_region 8 with fail)
   go_cut [7,8] from 22 to 29 (fun s t wx=>∃v1 v2:Option Addr,s=.pointer v1∧t=.pointer v2∧PtAt wx v1 (zak (NV.brs ⟨ba,bn,bc,bs,some ⟨lb,lo,none⟩,ln,lc,ls,sa,sn,sc,ss⟩) x.a x.p)∧PtAt wx v2 (zak (NV.brs ⟨ba,bn,bc,bs,some ⟨lb,lo,none⟩,ln,lc,ls,sa,sn,sc,ss⟩) x.b x.q)∧Below wq.heap.size wq wx)
   case first =>
    have vv:Below wq.heap.size wq wq.drew:=zr (Below.refl _ _);refine wp_region_held_drew (S:=(fun W=>(zcc W w.heap.size 0 (.slice ba bn bc)∧zcc W w.heap.size 1 (.slice (some ⟨lb,lo,none⟩) ln lc)∧zcc W w.heap.size 2 (.slice sa sn sc))∧(zcc W E 0 (.int .i64 x.a)∧zcc W E 1 (.int .i64 x.p)∧zcc W E 2 (.int .i64 x.b)∧zcc W E 3 (.int .i64 x.q)))) (by kernel_rfl) (⟨zd (za kNe vv),zO (za kE vv)⟩) (fun hHeld => ?_);refine kK 0 ?_;refine kK 1 ?_;refine kK 2 ?_;refine kK 4 ?_;refine kK 5 ?_;refine kK 6 ?_;refine kR 3 fun K hK => ?_
    go_simp;refine (zc5 ⟨ba,bn,bc,bs,some ⟨lb,lo,none⟩,ln,lc,ls,sa,sn,sc,ss⟩ x.a x.p _ (hN.below (zc bq vv))).mono ?_;rintro r wz ⟨v1,rfl,v1P,hbz⟩;have v1P:=PtAt.later v1P hbz;(try have v2P:=PtAt.later v2P hbz);have vv:=zc vv hbz;(go_wp2_with fail);refine kO hK (⟨zd (za kNe vv),zO (za kE vv)⟩) fun hHeld => ?_
    clear hK K;refine kR 7 fun K hK => ?_
    go_simp;refine (zc5 ⟨ba,bn,bc,bs,some ⟨lb,lo,none⟩,ln,lc,ls,sa,sn,sc,ss⟩ x.b x.q _ (hN.below (zc bq vv))).mono ?_;rintro r wz ⟨v2,rfl,v2P,hbz⟩;have v2P:=PtAt.later v2P hbz;(try have v1P:=PtAt.later v1P hbz);have vv:=zc vv hbz;(go_wp2_with fail);refine kO hK (⟨zd (za kNe vv),zO (za kE vv)⟩) fun hHeld => ?_
    clear hK K;refine kK 8 ?_;refine kK 9 ?_;refine wpAnyH_done (by kernel_rfl) ?_ _;clear hHeld;(go_wp2_with fail)
    go_meet
    exact ⟨v1,v2,rfl,rfl,v1P,v2P,vv⟩
   case rest =>
    obtain ⟨v1,v2,rfl,rfl,v1P,v2P,hb9⟩:=hcut;obtain ⟨w9,hw9⟩:∃y,y=wc:=⟨_,rfl⟩;subst hw9;rw [HBR.out] at v1P v2P;have kL:=za kL hb9;have kE:=za kE hb9;have kNe:=za kNe hb9;have oT:=zl oT hb9;have bc9:=zc bq hb9;clear hb9 bq;have vv:Below w9.heap.size w9 w9.drew:=zr (Below.refl _ _);have i4:(2*(k:Nat))+2=2*(k+1):=by omega
    cases hP:zak bR x.a x.p with
    | none =>
     rw [hP] at v1P;have e1:v1=none:=v1P;subst e1;have HNO:Hid ((false=true)↔zaW bR ls):=hide (zaC fun hp=>by
      obtain ⟨u,v,hu,-⟩:=(hp.2 x hmem).1.2;rw [hP] at hu;cases hu)
     clear v1P v2P;(go_wp2_with fail);refine wp_region_held_drew (S:=(fun W=>zcc W L 0 (.int .i64 x.a)∧zcc W L 1 (.int .i64 x.p)∧zcc W L 2 (.int .i64 x.b)∧zcc W L 3 (.int .i64 x.q))) (by kernel_rfl) (zO (za kL vv)) (fun hHeld => ?_);refine kK 0 ?_;refine kK 1 ?_;refine kK 2 ?_;refine kN 3 ?_;refine kN 4 ?_;refine kK 5 ?_;refine kK 6 ?_;refine kN 7 ?_;refine kN 8 ?_;refine kN 9 ?_;refine kN 10 ?_;refine kN 11 ?_;refine kK 12 ?_;refine kK 13 ?_;refine kN 14 ?_;refine kN 15 ?_;refine kN 16 ?_;refine kN 17 ?_;refine kN 18 ?_;refine kN 19 ?_;refine kN 20 ?_;refine kN 21 ?_;refine kN 22 ?_;refine kK 23 ?_;refine wpAnyH_done (by kernel_rfl) ?_ _;have HB:=hide (zc bc9 vv);clear hHeld vv kL;go_wp2;go_ret;exact ⟨false,rfl,HNO.out,HB.out⟩
    | some u =>
     rw [hP] at v1P;obtain ⟨g1,j1,rfl,d1⟩:=v1P;cases hQ:zak bR x.b x.q with
     | none =>
      rw [hQ] at v2P;have e2:v2=none:=v2P;subst e2;have HNO:Hid ((false=true)↔zaW bR ls):=hide (zaC fun hp=>by
       obtain ⟨u,v,-,hv,-⟩:=(hp.2 x hmem).1.2;rw [hQ] at hv;cases hv)
      clear v2P;(go_wp2_with fail);refine wp_region_held_drew (S:=(fun W=>zcc W L 0 (.int .i64 x.a)∧zcc W L 1 (.int .i64 x.p)∧zcc W L 2 (.int .i64 x.b)∧zcc W L 3 (.int .i64 x.q))) (by kernel_rfl) (zO (za kL vv)) (fun hHeld => ?_);refine kK 0 ?_;refine kK 1 ?_;refine kK 2 ?_;refine kK 3 ?_;refine kK 4 ?_;refine kK 5 ?_;refine kK 6 ?_;refine kN 7 ?_;refine kN 8 ?_;refine kN 9 ?_;refine kN 10 ?_;refine kN 11 ?_;refine kK 12 ?_;refine kK 13 ?_;refine kN 14 ?_;refine kN 15 ?_;refine kN 16 ?_;refine kN 17 ?_;refine kN 18 ?_;refine kN 19 ?_;refine kN 20 ?_;refine kN 21 ?_;refine kN 22 ?_;refine kK 23 ?_;refine wpAnyH_done (by kernel_rfl) ?_ _;have HB:=hide (zc bc9 vv);clear hHeld vv kL;go_wp2;go_ret;exact ⟨false,rfl,HNO.out,HB.out⟩
     | some v =>
      rw [hQ] at v2P;obtain ⟨g2,j2,rfl,d2⟩:=v2P;by_cases hab:x.a=x.b
      ·have HNO:Hid ((false=true)↔zaW bR ls):=hide (zaC fun hp=>(hp.2 x hmem).1.1 hab);have HAB:=hide hab;clear hab;(go_wp2_with fail);have hab:=HAB.out;refine wp_region_held_drew (S:=(fun W=>zcc W L 0 (.int .i64 x.a)∧zcc W L 1 (.int .i64 x.p)∧zcc W L 2 (.int .i64 x.b)∧zcc W L 3 (.int .i64 x.q))) (by kernel_rfl) (zO (za kL vv)) (fun hHeld => ?_);refine kK 0 ?_;refine kK 1 ?_;refine kK 2 ?_;refine kK 3 ?_;refine kK 4 ?_;refine kK 5 ?_;refine kK 6 ?_;refine kK 7 ?_;refine kK 8 ?_;refine kK 9 ?_;refine kK 10 ?_;refine kV 11 (.bool true) ?_;refine kK 12 ?_;refine kK 13 ?_;refine kN 14 ?_;refine kN 15 ?_;refine kN 16 ?_;refine kN 17 ?_;refine kN 18 ?_;refine kN 19 ?_;refine kN 20 ?_;refine kN 21 ?_;refine kN 22 ?_;refine kK 23 ?_;refine wpAnyH_done (by kernel_rfl) ?_ _;have HB:=hide (zc bc9 vv);clear hHeld vv kL;go_wp2;go_ret;exact ⟨false,rfl,HNO.out,HB.out⟩
      ·have HNO:Hid (u.up≠v.up→((false=true)↔zaW bR ls)):=hide (fun hne=>zaC fun hp=>by
        obtain ⟨u',v',hu',hv',he⟩:=(hp.2 x hmem).1.2;rw [hP] at hu';rw [hQ] at hv';cases hu';cases hv';exact hne he)
       (go_wp2_with fail);refine wp_region_held_drew (S:=(fun W=>(zcc W L 0 (.int .i64 x.a)∧zcc W L 1 (.int .i64 x.p)∧zcc W L 2 (.int .i64 x.b)∧zcc W L 3 (.int .i64 x.q))∧zcc W g1 j1 (.bool u.up)∧zcc W g2 j2 (.bool v.up))) (by kernel_rfl) (⟨zO (za kL vv),(vv.cell (zo d1)).trans d1,(vv.cell (zo d2)).trans d2⟩) (fun hHeld => ?_);refine kK 0 ?_;refine kK 1 ?_;refine kK 2 ?_;refine kK 3 ?_;refine kK 4 ?_;refine kK 5 ?_;refine kK 6 ?_;refine kK 7 ?_;refine kK 8 ?_;refine kK 9 ?_;refine kK 10 ?_;refine kV 11 (.bool false) ?_;refine kK 12 ?_;refine kK 13 ?_;refine kK 14 ?_;refine kK 15 ?_;refine kK 16 ?_;refine kK 17 ?_;refine kK 18 ?_;refine kK 19 ?_;refine kK 20 ?_;refine kK 21 ?_;refine kK 22 ?_;refine kK 23 ?_;refine wpAnyH_done (by kernel_rfl) ?_ _;have bD:=zc bc9 vv;have kL:=za kL vv;have kE:=za kE vv;have kNe:=za kNe vv;have oT:=zl oT vv;clear hHeld vv d1 d2;have HAB:=hide hab;have HPQ:=hide (And.intro hP hQ);clear hab hP hQ;cases hu:u.up <;> cases hv:v.up
       ·have HE:Hid (zce bR x):=hide ⟨HAB.out,u,v,HPQ.out.1,HPQ.out.2,by rw [hu,hv]⟩;obtain ⟨e0,e1,e2,e3⟩:=zO kE;(go_wp2_with fail);refine (zbk ta (2*k) tc (endsL (ls.take k)) x.a x.p _ (zD (F:=endF) oT)).mono ?_;rintro e w10 ⟨q1,rfl,hq1,hb10⟩;have kE:=za kE hb10;have kNe:=za kNe hb10;have oT:=zl oT hb10;have bD:=zc bD hb10;clear e0 e1 e2 e3 hb10 kL;have HQ1:=hide hq1;clear hq1;cases q1;rotate_left
        ·have HNO:Hid ((false=true)↔zaW bR ls):=hide (zaC fun hp=>by
          rw [zbF] at hp;have hn:=hp.2.2;rw [zcZ HX.out] at hn;exact (List.nodup_append.1 hn).2.2 _ (HQ1.out.1 rfl) _ (by simp) rfl)
         go_wp2;go_ret;exact ⟨false,rfl,HNO.out,bD⟩
        obtain ⟨e0,e1,e2,e3⟩:=zO kE;(go_wp2_with fail);refine (zbk ta (2*k) tc (endsL (ls.take k)) x.b x.q _ (zD (F:=endF) oT)).mono ?_;rintro e w11 ⟨q2,rfl,hq2,hb11⟩;have kE:=za kE hb11;have kNe:=za kNe hb11;have oT:=zl oT hb11;have bD:=zc bD hb11;clear e0 e1 e2 e3 hb11;have HQ2:=hide hq2;clear hq2;cases q2;rotate_left
        ·have HNO:Hid ((false=true)↔zaW bR ls):=hide (zaC fun hp=>by
          rw [zbF] at hp;have hn:=hp.2.2;rw [zcZ HX.out] at hn;exact (List.nodup_append.1 hn).2.2 _ (HQ2.out.1 rfl) _ (by simp) rfl)
         go_wp2;go_ret;exact ⟨false,rfl,HNO.out,bD⟩
        have HND:Hid ((endsL (ls.take (k+1))).Nodup):=hide (by
         rw [zdz HX.out];refine List.nodup_append.2 ⟨HNDP.out, ?_, ?_⟩
         ·have:=HAB.out
          simp
          intro e; exact absurd e this
         ·intro a ha b hb e;subst e
          simp at hb
          rcases hb with rfl | rfl
          ·have:=HQ1.out.2 ha; cases this
          ·have:=HQ2.out.2 ha; cases this)
        have HEO:=hide (zbK HX.out HEP.out HE.out);have HEN:=hide (zdz HX.out);have hbz:w.heap.size+1≤w11.heap.size:=zcB kNe;have hlt2:=oT.lt;go_wp2_with (at_builtin; refine zE (F:=endF) _ rfl _ _ 106 67 rfl (w.heap.size+1) Tryz.underlying106 zjj rfl (by decide) _ (2*k) (endsL (ls.take k)) rfl oT (some ⟨E,0,none⟩) 2 2 [(x.a,x.p),(x.b,x.q)] rfl (zhW kE) (by omega) hbz ?_)
        intro ta' tc' w12 oT' _ hgr hbl;have HT:Hid (w12.ownsRow (w.heap.size+1) 67 2 (.slice ta' (2*(k+1)) tc') (2*(k+1)) (endF.all (endsL (ls.take (k+1))))):=hide (by rw [HEN.out]; exact oT');have HK:Hid (w12.heap[w.heap.size]? = some (.cells #[.slice ba bn bc,.slice (some ⟨lb,lo,none⟩) ln lc,.slice sa sn sc] 31)):=hide (ze kNe hgr (by intro j e; have:=(hlt2 j e).1; omega));have HB:Hid (Below w.heap.size w w12):=hide (bD.grown hgr bD.size (by intro j e; have:=(hlt2 j e).1; omega));clear oT oT' hgr hbl kE kNe bD hlt2 hbz;go_wp2
        go_roundw
        case rel=>exact ⟨k+1,ta',tc',by omega,by go_num,rfl,HEO.out,HND.out,HT.out,HK.out,HB.out⟩
        case measure=>simp [intOf]; omega
       ·have HNO:=hide (HNO.out (by rw [hu,hv]; simp));go_wp2;go_ret;exact ⟨false,rfl,HNO.out,bD⟩
       ·have HNO:=hide (HNO.out (by rw [hu,hv]; simp));go_wp2;go_ret;exact ⟨false,rfl,HNO.out,bD⟩
       ·have HE:Hid (zce bR x):=hide ⟨HAB.out,u,v,HPQ.out.1,HPQ.out.2,by rw [hu,hv]⟩;obtain ⟨e0,e1,e2,e3⟩:=zO kE;(go_wp2_with fail);refine (zbk ta (2*k) tc (endsL (ls.take k)) x.a x.p _ (zD (F:=endF) oT)).mono ?_;rintro e w10 ⟨q1,rfl,hq1,hb10⟩;have kE:=za kE hb10;have kNe:=za kNe hb10;have oT:=zl oT hb10;have bD:=zc bD hb10;clear e0 e1 e2 e3 hb10 kL;have HQ1:=hide hq1;clear hq1;cases q1;rotate_left
        ·have HNO:Hid ((false=true)↔zaW bR ls):=hide (zaC fun hp=>by
          rw [zbF] at hp;have hn:=hp.2.2;rw [zcZ HX.out] at hn;exact (List.nodup_append.1 hn).2.2 _ (HQ1.out.1 rfl) _ (by simp) rfl)
         go_wp2;go_ret;exact ⟨false,rfl,HNO.out,bD⟩
        obtain ⟨e0,e1,e2,e3⟩:=zO kE;(go_wp2_with fail);refine (zbk ta (2*k) tc (endsL (ls.take k)) x.b x.q _ (zD (F:=endF) oT)).mono ?_;rintro e w11 ⟨q2,rfl,hq2,hb11⟩;have kE:=za kE hb11;have kNe:=za kNe hb11;have oT:=zl oT hb11;have bD:=zc bD hb11;clear e0 e1 e2 e3 hb11;have HQ2:=hide hq2;clear hq2;cases q2;rotate_left
        ·have HNO:Hid ((false=true)↔zaW bR ls):=hide (zaC fun hp=>by
          rw [zbF] at hp;have hn:=hp.2.2;rw [zcZ HX.out] at hn;exact (List.nodup_append.1 hn).2.2 _ (HQ2.out.1 rfl) _ (by simp) rfl)
         go_wp2;go_ret;exact ⟨false,rfl,HNO.out,bD⟩
        have HND:Hid ((endsL (ls.take (k+1))).Nodup):=hide (by
         rw [zdz HX.out];refine List.nodup_append.2 ⟨HNDP.out, ?_, ?_⟩
         ·have:=HAB.out
          simp
          intro e; exact absurd e this
         ·intro a ha b hb e;subst e
          simp at hb
          rcases hb with rfl | rfl
          ·have:=HQ1.out.2 ha; cases this
          ·have:=HQ2.out.2 ha; cases this)
        have HEO:=hide (zbK HX.out HEP.out HE.out);have HEN:=hide (zdz HX.out);have hbz:w.heap.size+1≤w11.heap.size:=zcB kNe;have hlt2:=oT.lt;go_wp2_with (at_builtin; refine zE (F:=endF) _ rfl _ _ 106 67 rfl (w.heap.size+1) Tryz.underlying106 zjj rfl (by decide) _ (2*k) (endsL (ls.take k)) rfl oT (some ⟨E,0,none⟩) 2 2 [(x.a,x.p),(x.b,x.q)] rfl (zhW kE) (by omega) hbz ?_)
        intro ta' tc' w12 oT' _ hgr hbl;have HT:Hid (w12.ownsRow (w.heap.size+1) 67 2 (.slice ta' (2*(k+1)) tc') (2*(k+1)) (endF.all (endsL (ls.take (k+1))))):=hide (by rw [HEN.out]; exact oT');have HK:Hid (w12.heap[w.heap.size]? = some (.cells #[.slice ba bn bc,.slice (some ⟨lb,lo,none⟩) ln lc,.slice sa sn sc] 31)):=hide (ze kNe hgr (by intro j e; have:=(hlt2 j e).1; omega));have HB:Hid (Below w.heap.size w w12):=hide (bD.grown hgr bD.size (by intro j e; have:=(hlt2 j e).1; omega));clear oT oT' hgr hbl kE kNe bD hlt2 hbz;go_wp2
        go_roundw
        case rel=>exact ⟨k+1,ta',tc',by omega,by go_num,rfl,HEO.out,HND.out,HT.out,HK.out,HB.out⟩
        case measure=>simp [intOf]; omega
  ·have hkn:k=ln:=by omega
   rw [List.take_of_length_le (by omega)] at hep hnd;have HP:Hid (zaW bR ls):=hide ((zbF _ _).2 ⟨by omega,hep,hnd⟩);clear hep hnd oT;subst hkn;go_wp2;go_ret;exact ⟨true,rfl,zd3 HP.out,hb⟩

theorem zjb (l:List FE) (t m:Int):(∃(i:Nat) (x:FE),atF l t m=i∧i < l.length∧l[i]? = some x∧lookE l t m=some x)∨(atF l t m = -1∧lookE l t m=none):=by
 cases hf:l.findIdx? (fun e=>both e t m) with
 | none =>
  refine .inr ⟨by unfold atF; rw [hf], ?_⟩;rw [List.findIdx?_eq_none_iff] at hf;exact zgJ.2 (fun e he hb=>by have:=hf e he; rw [zbL.2 hb] at this; cases this)
 | some i =>
  obtain ⟨hi,hp,hno⟩:=List.findIdx?_eq_some_iff_getElem.1 hf;refine .inl ⟨i,l[i],by unfold atF; rw [hf],hi,List.getElem?_eq_getElem hi, ?_⟩;unfold lookE;rw [List.find?_eq_some_iff_getElem];exact ⟨hp,i,hi,rfl,fun j hj=>by simpa using hno j hj⟩

theorem zdO (ao:Option Addr) (n cap:Nat) (l:List FE) (t m p:Int) (w:World) (h:GRow fentF w ao n cap l) (hn:n≤16777216) :
  Calls Tryz.prog 116 #[.slice ao n cap,.int .i64 t,.int .i64 m,.int .i64 p] w fun r w'=>∃ao' cap',r=.returned (.slice ao' (zbu l t m p).length cap')∧w'.ownsRow w.heap.size 95 5 (.slice ao' (zbu l t m p).length cap') (zbu l t m p).length (fentF.all (zbu l t m p))∧GRow fentF w' ao' (zbu l t m p).length cap' (zbu l t m p)∧Below w.heap.size w w':=by
 have q0:=zg w (.cells #[.int .i64 t,.int .i64 m,.int .i64 p,.int .i64 0,.bool false] 95);have k0:=zt w (.cells #[.int .i64 t,.int .i64 m,.int .i64 p,.int .i64 0,.bool false] 95);obtain rfl:=h.size;have hla:=zjb l t m;cases hc:zdw l t m p
 ·rw [show zbu l t m p=l by unfold zbu; rw [hc]; rfl];unfold zdw at hc;cases h1:fdbOk l
  ·have H1:=hide h1;clear hc h1;go_enter Tryz.func116,Tryz.ntmps116;(go_wp2_with fail);generalize w.alloc (.cells #[.int .i64 t,.int .i64 m,.int .i64 p,.int .i64 0,.bool false] 95)=wb at *;refine (za4 _ _ _ l t m _ (h.below q0)).mono ?_;rintro r w1 ⟨rfl,rfl⟩;(go_wp2_with fail);refine (zaa _ _ _ l _ (h.below q0)).mono ?_;rintro r wx ⟨rfl,hbx⟩;rw [H1.out];have bx:=zc q0 hbx;clear hbx;(go_wp2_with fail);refine (zaK _ _ _ l _ (h.below bx) hn).mono ?_;rintro r w9 ⟨ao9,cap9,rfl,ho9,hr9,hb9⟩;have HO:=hide (zL ho9 (base':=w.heap.size) bx.size);have HR:=hide hr9;have HB:=hide (zc bx hb9);clear ho9 hr9 hb9 bx;go_wp2;go_ret;exact ⟨_,_,rfl,HO.out,HR.out,HB.out⟩
  ·cases h2:entOk (⟨t,m,p,0,false⟩:FE)
   ·have H1:=hide h1;have H2:=hide h2;clear hc h1 h2;go_enter Tryz.func116,Tryz.ntmps116;(go_wp2_with fail);generalize w.alloc (.cells #[.int .i64 t,.int .i64 m,.int .i64 p,.int .i64 0,.bool false] 95)=wb at *;refine (za4 _ _ _ l t m _ (h.below q0)).mono ?_;rintro r w1 ⟨rfl,rfl⟩;(go_wp2_with fail);refine (zaa _ _ _ l _ (h.below q0)).mono ?_;rintro r wy ⟨rfl,hby⟩;rw [H1.out];obtain ⟨⟨x0,x1,x2,x3,x4⟩,-⟩:=zx (za k0 hby);(go_wp2_with fail);refine (zar (⟨t,m,p,0,false⟩:FE) _).mono ?_;rintro r wx ⟨rfl,hbx⟩;rw [H2.out];have bx:=zc q0 (zc hby hbx);clear hby hbx x0 x1 x2 x3 x4;(go_wp2_with fail);refine (zaK _ _ _ l _ (h.below bx) hn).mono ?_;rintro r w9 ⟨ao9,cap9,rfl,ho9,hr9,hb9⟩;have HO:=hide (zL ho9 (base':=w.heap.size) bx.size);have HR:=hide hr9;have HB:=hide (zc bx hb9);clear ho9 hr9 hb9 bx;go_wp2;go_ret;exact ⟨_,_,rfl,HO.out,HR.out,HB.out⟩
   ·rw [h1,h2,Bool.true_and,Bool.true_and] at hc;have H1:=hide h1;have H2:=hide h2;clear h1 h2;rcases hla with ⟨i,x,hat,hi,hx,hlk⟩ | ⟨hat,hlk⟩
    ·rw [hlk] at hc;have hs:x.s=true:=by simpa using hc
     have HAT:=hide hat;have hat1:(i:Int)≥0:=by omega
     have hat2:¬(i:Int) < 0:=by omega
     clear hc hat;go_enter Tryz.func116,Tryz.ntmps116;(go_wp2_with fail);generalize w.alloc (.cells #[.int .i64 t,.int .i64 m,.int .i64 p,.int .i64 0,.bool false] 95)=wb at *;refine (za4 _ _ _ l t m _ (h.below q0)).mono ?_;rintro r w1 ⟨rfl,rfl⟩;rw [HAT.out];(go_wp2_with fail);refine (zaa _ _ _ l _ (h.below q0)).mono ?_;rintro r wy ⟨rfl,hby⟩;rw [H1.out];obtain ⟨⟨x0,x1,x2,x3,x4⟩,-⟩:=zx (za k0 hby);(go_wp2_with fail);refine (zar (⟨t,m,p,0,false⟩:FE) _).mono ?_;rintro r wx ⟨rfl,hbx⟩;rw [H2.out];have bx:=zc q0 (zc hby hbx);obtain ⟨x',b,off,hx',rfl,-,-,-,-,c4⟩:=zbH (h.below bx) i hi;rw [hx] at hx';cases hx';rw [hs] at c4;clear hby hbx x0 x1 x2 x3 x4;(go_wp2_with fail);refine (zaK _ _ _ l _ (h.below bx) hn).mono ?_;rintro r w9 ⟨ao9,cap9,rfl,ho9,hr9,hb9⟩;have HO:=hide (zL ho9 (base':=w.heap.size) bx.size);have HR:=hide hr9;have HB:=hide (zc bx hb9);clear ho9 hr9 hb9 bx;go_wp2;go_ret;exact ⟨_,_,rfl,HO.out,HR.out,HB.out⟩
    ·rw [hlk] at hc;have hlen:¬l.length < 12:=by simpa using hc
     have HAT:=hide hat;clear hc hat;go_enter Tryz.func116,Tryz.ntmps116;(go_wp2_with fail);generalize w.alloc (.cells #[.int .i64 t,.int .i64 m,.int .i64 p,.int .i64 0,.bool false] 95)=wb at *;refine (za4 _ _ _ l t m _ (h.below q0)).mono ?_;rintro r w1 ⟨rfl,rfl⟩;rw [HAT.out];(go_wp2_with fail);refine (zaa _ _ _ l _ (h.below q0)).mono ?_;rintro r wy ⟨rfl,hby⟩;rw [H1.out];obtain ⟨⟨x0,x1,x2,x3,x4⟩,-⟩:=zx (za k0 hby);(go_wp2_with fail);refine (zar (⟨t,m,p,0,false⟩:FE) _).mono ?_;rintro r wx ⟨rfl,hbx⟩;rw [H2.out];have bx:=zc q0 (zc hby hbx);have i5:(12:Int)≤(l.length:Int):=by omega
     clear hby hbx x0 x1 x2 x3 x4;(go_wp2_with fail);refine (zaK _ _ _ l _ (h.below bx) hn).mono ?_;rintro r w9 ⟨ao9,cap9,rfl,ho9,hr9,hb9⟩;have HO:=hide (zL ho9 (base':=w.heap.size) bx.size);have HR:=hide hr9;have HB:=hide (zc bx hb9);clear ho9 hr9 hb9 bx;go_wp2;go_ret;exact ⟨_,_,rfl,HO.out,HR.out,HB.out⟩
 ·rw [show zbu l t m p=putF8 (⟨t,m,p,0,false⟩:FE) l by unfold zbu; rw [hc]; rfl];unfold zdw at hc;simp only [Bool.and_eq_true] at hc;obtain ⟨h1,h2,h3⟩:=hc;have H1:=hide h1;have H2:=hide h2;clear h1 h2;rcases hla with ⟨i,x,hat,hi,hx,hlk⟩ | ⟨hat,hlk⟩
  ·rw [hlk] at h3;have hs:x.s=false:=by simpa using h3
   have HAT:=hide hat;have hat1:(i:Int)≥0:=by omega
   have hat2:¬(i:Int) < 0:=by omega
   clear h3 hat;go_enter Tryz.func116,Tryz.ntmps116;(go_wp2_with fail);generalize w.alloc (.cells #[.int .i64 t,.int .i64 m,.int .i64 p,.int .i64 0,.bool false] 95)=wb at *;refine (za4 _ _ _ l t m _ (h.below q0)).mono ?_;rintro r w1 ⟨rfl,rfl⟩;rw [HAT.out];(go_wp2_with fail);refine (zaa _ _ _ l _ (h.below q0)).mono ?_;rintro r wy ⟨rfl,hby⟩;rw [H1.out];obtain ⟨⟨x0,x1,x2,x3,x4⟩,-⟩:=zx (za k0 hby);(go_wp2_with fail);refine (zar (⟨t,m,p,0,false⟩:FE) _).mono ?_;rintro r wx ⟨rfl,hbx⟩;rw [H2.out];have bx:=zc q0 (zc hby hbx);have kx:=za k0 (zc hby hbx);obtain ⟨x',b,off,hx',rfl,-,-,-,-,c4⟩:=zbH (h.below bx) i hi;rw [hx] at hx';cases hx';rw [hs] at c4;clear hby hbx x0 x1 x2 x3 x4;obtain ⟨⟨x0,x1,x2,x3,x4⟩,-⟩:=zx kx;(go_wp2_with fail);refine (zb8 _ _ _ l (⟨t,m,p,0,false⟩:FE) _ (h.below bx) hn).mono ?_;rintro r w9 ⟨ao9,cap9,rfl,ho9,hr9,hb9⟩;have HO:=hide (zL ho9 (base':=w.heap.size) bx.size);have HR:=hide hr9;have HB:=hide (zc bx hb9);clear ho9 hr9 hb9 bx x0 x1 x2 x3 x4;go_wp2;go_ret;exact ⟨_,_,rfl,HO.out,HR.out,HB.out⟩
  ·rw [hlk] at h3;have hlen:l.length < 12:=by simpa using h3
   have HAT:=hide hat;clear h3 hat;go_enter Tryz.func116,Tryz.ntmps116;(go_wp2_with fail);generalize w.alloc (.cells #[.int .i64 t,.int .i64 m,.int .i64 p,.int .i64 0,.bool false] 95)=wb at *;refine (za4 _ _ _ l t m _ (h.below q0)).mono ?_;rintro r w1 ⟨rfl,rfl⟩;rw [HAT.out];(go_wp2_with fail);refine (zaa _ _ _ l _ (h.below q0)).mono ?_;rintro r wy ⟨rfl,hby⟩;rw [H1.out];obtain ⟨⟨x0,x1,x2,x3,x4⟩,-⟩:=zx (za k0 hby);(go_wp2_with fail);refine (zar (⟨t,m,p,0,false⟩:FE) _).mono ?_;rintro r wx ⟨rfl,hbx⟩;rw [H2.out];have bx:=zc q0 (zc hby hbx);have kx:=za k0 (zc hby hbx);have i5:¬(12:Int)≤(l.length:Int):=by omega
   clear hby hbx x0 x1 x2 x3 x4;obtain ⟨⟨x0,x1,x2,x3,x4⟩,-⟩:=zx kx;(go_wp2_with fail);refine (zb8 _ _ _ l (⟨t,m,p,0,false⟩:FE) _ (h.below bx) hn).mono ?_;rintro r w9 ⟨ao9,cap9,rfl,ho9,hr9,hb9⟩;have HO:=hide (zL ho9 (base':=w.heap.size) bx.size);have HR:=hide hr9;have HB:=hide (zc bx hb9);clear ho9 hr9 hb9 bx x0 x1 x2 x3 x4;go_wp2;go_ret;exact ⟨_,_,rfl,HO.out,HR.out,HB.out⟩

theorem ze1 (ao:Option Addr) (n cap:Nat) (l:List FE) (t m p:Int) (w:World) (h:GRow fentF w ao n cap l) (hn:n≤16777216) :
  Calls Tryz.prog 118 #[.slice ao n cap,.int .i64 t,.int .i64 m,.int .i64 p] w fun r w'=>∃ao' cap',r=.returned (.tuple #[.slice ao' (setF l t m p).length cap',.bool (zfq l t m p)])∧w'.ownsRow w.heap.size 95 5 (.slice ao' (setF l t m p).length cap') (setF l t m p).length (fentF.all (setF l t m p))∧GRow fentF w' ao' (setF l t m p).length cap' (setF l t m p)∧Below w.heap.size w w':=by
 have q0:=zg w (.cells #[.int .i64 t,.int .i64 m,.int .i64 p,.int .i64 0,.bool true] 95);have k0:=zt w (.cells #[.int .i64 t,.int .i64 m,.int .i64 p,.int .i64 0,.bool true] 95);obtain rfl:=h.size;have hla:=zjb l t m;cases hc:zfq l t m p
 ·rw [show setF l t m p=l by unfold setF; rw [hc]; rfl];unfold zfq at hc;cases h1:fdbOk l
  ·have H1:=hide h1;clear hc h1;go_enter Tryz.func118,Tryz.ntmps118;(go_wp2_with fail);generalize w.alloc (.cells #[.int .i64 t,.int .i64 m,.int .i64 p,.int .i64 0,.bool true] 95)=wb at *;refine (zaa _ _ _ l _ (h.below q0)).mono ?_;rintro r wy ⟨rfl,hby⟩;rw [H1.out];have bx:=zc q0 hby;have kx:=za k0 hby;clear hby;(go_wp2_with fail);refine (zaK _ _ _ l _ (h.below bx) hn).mono ?_;rintro r w9 ⟨ao9,cap9,rfl,ho9,hr9,hb9⟩;have HO:=hide (zL ho9 (base':=w.heap.size) bx.size);have HR:=hide hr9;have HB:=hide (zc bx hb9);clear ho9 hr9 hb9 bx;go_wp2;exact bodyPost_ret (v:=.tuple #[.slice ao9 l.length cap9,.bool false]) (by simp [results,Tryz.results118,go_sem, *]) rfl ⟨_,_,rfl,HO.out,HR.out,HB.out⟩
  ·cases h2:entOk (⟨t,m,p,0,true⟩:FE)
   ·have H1:=hide h1;have H2:=hide h2;clear hc h1 h2;go_enter Tryz.func118,Tryz.ntmps118;(go_wp2_with fail);generalize w.alloc (.cells #[.int .i64 t,.int .i64 m,.int .i64 p,.int .i64 0,.bool true] 95)=wb at *;refine (zaa _ _ _ l _ (h.below q0)).mono ?_;rintro r wy ⟨rfl,hby⟩;rw [H1.out];obtain ⟨⟨x0,x1,x2,x3,x4⟩,-⟩:=zx (za k0 hby);(go_wp2_with fail);refine (zar (⟨t,m,p,0,true⟩:FE) _).mono ?_;rintro r wx ⟨rfl,hbx⟩;rw [H2.out];have bx:=zc q0 (zc hby hbx);have kx:=za k0 (zc hby hbx);clear hby hbx x0 x1 x2 x3 x4;(go_wp2_with fail);refine (zaK _ _ _ l _ (h.below bx) hn).mono ?_;rintro r w9 ⟨ao9,cap9,rfl,ho9,hr9,hb9⟩;have HO:=hide (zL ho9 (base':=w.heap.size) bx.size);have HR:=hide hr9;have HB:=hide (zc bx hb9);clear ho9 hr9 hb9 bx;go_wp2;exact bodyPost_ret (v:=.tuple #[.slice ao9 l.length cap9,.bool false]) (by simp [results,Tryz.results118,go_sem, *]) rfl ⟨_,_,rfl,HO.out,HR.out,HB.out⟩
   ·rw [h1,h2,Bool.true_and,Bool.true_and] at hc;have H1:=hide h1;have H2:=hide h2;clear h1 h2;rcases hla with ⟨i,x,hat,hi,hx,hlk⟩ | ⟨hat,hlk⟩
    ·rw [hlk] at hc
     simp at hc
    ·rw [hlk] at hc;have hlen:¬l.length < 12:=by simpa using hc
     have i5:(12:Int)≤(l.length:Int):=by omega
     have HAT:=hide hat;clear hc hat;go_enter Tryz.func118,Tryz.ntmps118;(go_wp2_with fail);generalize w.alloc (.cells #[.int .i64 t,.int .i64 m,.int .i64 p,.int .i64 0,.bool true] 95)=wb at *;refine (zaa _ _ _ l _ (h.below q0)).mono ?_;rintro r wy ⟨rfl,hby⟩;rw [H1.out];obtain ⟨⟨x0,x1,x2,x3,x4⟩,-⟩:=zx (za k0 hby);(go_wp2_with fail);refine (zar (⟨t,m,p,0,true⟩:FE) _).mono ?_;rintro r wx ⟨rfl,hbx⟩;rw [H2.out];have bx:=zc q0 (zc hby hbx);have kx:=za k0 (zc hby hbx);clear hby hbx x0 x1 x2 x3 x4;(go_wp2_with fail);refine (za4 _ _ _ l t m _ (h.below bx)).mono ?_;rintro r w1 ⟨rfl,rfl⟩;rw [HAT.out];(go_wp2_with fail);refine (zaK _ _ _ l _ (h.below bx) hn).mono ?_;rintro r w9 ⟨ao9,cap9,rfl,ho9,hr9,hb9⟩;have HO:=hide (zL ho9 (base':=w.heap.size) bx.size);have HR:=hide hr9;have HB:=hide (zc bx hb9);clear ho9 hr9 hb9 bx;go_wp2;exact bodyPost_ret (v:=.tuple #[.slice ao9 l.length cap9,.bool false]) (by simp [results,Tryz.results118,go_sem, *]) rfl ⟨_,_,rfl,HO.out,HR.out,HB.out⟩
 ·rw [show setF l t m p=putF8 (⟨t,m,p,0,true⟩:FE) l by unfold setF; rw [hc]; rfl];unfold zfq at hc;simp only [Bool.and_eq_true] at hc;obtain ⟨h1,h2,h3⟩:=hc;have H1:=hide h1;have H2:=hide h2;clear h1 h2;rcases hla with ⟨i,x,hat,hi,hx,hlk⟩ | ⟨hat,hlk⟩
  ·have HAT:=hide hat;have hat2:¬(i:Int) < 0:=by omega
   clear h3 hat;go_enter Tryz.func118,Tryz.ntmps118;(go_wp2_with fail);generalize w.alloc (.cells #[.int .i64 t,.int .i64 m,.int .i64 p,.int .i64 0,.bool true] 95)=wb at *;refine (zaa _ _ _ l _ (h.below q0)).mono ?_;rintro r wy ⟨rfl,hby⟩;rw [H1.out];obtain ⟨⟨x0,x1,x2,x3,x4⟩,-⟩:=zx (za k0 hby);(go_wp2_with fail);refine (zar (⟨t,m,p,0,true⟩:FE) _).mono ?_;rintro r wx ⟨rfl,hbx⟩;rw [H2.out];have bx:=zc q0 (zc hby hbx);have kx:=za k0 (zc hby hbx);clear hby hbx x0 x1 x2 x3 x4;(go_wp2_with fail);refine (za4 _ _ _ l t m _ (h.below bx)).mono ?_;rintro r w1 ⟨rfl,rfl⟩;rw [HAT.out];obtain ⟨⟨x0,x1,x2,x3,x4⟩,-⟩:=zx kx;(go_wp2_with fail);refine (zb8 _ _ _ l (⟨t,m,p,0,true⟩:FE) _ (h.below bx) hn).mono ?_;rintro r w9 ⟨ao9,cap9,rfl,ho9,hr9,hb9⟩;have HO:=hide (zL ho9 (base':=w.heap.size) bx.size);have HR:=hide hr9;have HB:=hide (zc bx hb9);clear ho9 hr9 hb9 bx x0 x1 x2 x3 x4;go_wp2;exact bodyPost_ret (v:=.tuple #[.slice ao9 (putF8 (⟨t,m,p,0,true⟩:FE) l).length cap9,.bool true]) (by simp [results,Tryz.results118,go_sem, *]) rfl ⟨_,_,rfl,HO.out,HR.out,HB.out⟩
  ·rw [hlk] at h3;have hlen:l.length < 12:=by simpa using h3
   have i5:¬(12:Int)≤(l.length:Int):=by omega
   have HAT:=hide hat;clear h3 hat;go_enter Tryz.func118,Tryz.ntmps118;(go_wp2_with fail);generalize w.alloc (.cells #[.int .i64 t,.int .i64 m,.int .i64 p,.int .i64 0,.bool true] 95)=wb at *;refine (zaa _ _ _ l _ (h.below q0)).mono ?_;rintro r wy ⟨rfl,hby⟩;rw [H1.out];obtain ⟨⟨x0,x1,x2,x3,x4⟩,-⟩:=zx (za k0 hby);(go_wp2_with fail);refine (zar (⟨t,m,p,0,true⟩:FE) _).mono ?_;rintro r wx ⟨rfl,hbx⟩;rw [H2.out];have bx:=zc q0 (zc hby hbx);have kx:=za k0 (zc hby hbx);clear hby hbx x0 x1 x2 x3 x4;(go_wp2_with fail);refine (za4 _ _ _ l t m _ (h.below bx)).mono ?_;rintro r w1 ⟨rfl,rfl⟩;rw [HAT.out];obtain ⟨⟨x0,x1,x2,x3,x4⟩,-⟩:=zx kx;(go_wp2_with fail);refine (zb8 _ _ _ l (⟨t,m,p,0,true⟩:FE) _ (h.below bx) hn).mono ?_;rintro r w9 ⟨ao9,cap9,rfl,ho9,hr9,hb9⟩;have HO:=hide (zL ho9 (base':=w.heap.size) bx.size);have HR:=hide hr9;have HB:=hide (zc bx hb9);clear ho9 hr9 hb9 bx x0 x1 x2 x3 x4;go_wp2;exact bodyPost_ret (v:=.tuple #[.slice ao9 (putF8 (⟨t,m,p,0,true⟩:FE) l).length cap9,.bool true]) (by simp [results,Tryz.results118,go_sem, *]) rfl ⟨_,_,rfl,HO.out,HR.out,HB.out⟩

theorem zh0 {α:Type} (F:Flat α) (w:World) (o:Obj) (x:α) (cs:Array Value) (T:TypeId) (h:cs.toList=F.cs x):GRow F ((w.alloc o).alloc (.cells cs T)) (some ⟨w.heap.size+1,0,none⟩) 1 1 [x]:=by
 have:=zax F (w.alloc o) x cs T h
 rw [show (w.alloc o).heap.size=w.heap.size+1 by simp] at this;exact this

theorem zke {x:FE} {zs r:List FE} (h:x.s=true):zs++[x]++ageF r=zs++ageF (x::r):=by
 have:ageF (x::r)=x::ageF r:=by unfold ageF; rw [List.filterMap_cons]; unfold ageE; rw [h]; rfl
 rw [this]; simp
theorem zlb {x:FE} {zs r:List FE} (h:x.s=false) (ha:x.a < 4):zs++[(⟨x.t,x.m,x.p,x.a+1,x.s⟩:FE)]++ageF r=zs++ageF (x::r):=by
 have:ageF (x::r)=⟨x.t,x.m,x.p,x.a+1,x.s⟩::ageF r:=by unfold ageF; rw [List.filterMap_cons]; unfold ageE; simp [h,ha]
 rw [this]; simp
theorem zly {x:FE} {zs r:List FE} (h:x.s=false) (ha:¬x.a < 4):zs++ageF r=zs++ageF (x::r):=by
 have:ageF (x::r)=ageF r:=by unfold ageF; rw [List.filterMap_cons]; unfold ageE; simp [h,ha]
 rw [this]

theorem zeX (ao:Option Addr) (n cap:Nat) (l:List FE) (w:World) (h:GRow fentF w ao n cap l) (hn:n≤16777216) (hR:∀x∈l,x.Rng) :
  Calls Tryz.prog 141 #[.slice ao n cap] w fun r w'=>∃ao' cap',r=.returned (.slice ao' (ageF l).length cap')∧w'.ownsRow w.heap.size 95 5 (.slice ao' (ageF l).length cap') (ageF l).length (fentF.all (ageF l))∧GRow fentF w' ao' (ageF l).length cap' (ageF l)∧Below w.heap.size w w':=by
 have hle:=h.le;have htop:=h.top;unfold maxLen at htop;have hsz:=h.size;have o0:=zaE fentF w _ 95 _ (zt w (.cells #[] 95)) (Nat.le_refl _);have b0:=zg w (.cells #[] 95);go_enter Tryz.func141,Tryz.ntmps141;go_wp2
 go_loopw [3,4] (fun o i wr=>∃(k:Nat) (zs:List FE) (az:Option Addr) (cz nz:Nat),k≤n∧i=.int .i64 k∧o=.slice az nz cz∧zs.length=nz∧nz≤k∧wr.ownsRow w.heap.size 95 5 (.slice az nz cz) nz (fentF.all zs)∧zs++ageF (l.drop k)=ageF l∧Below w.heap.size w wr) (fun _ i _=>n - (intOf i).toNat)
 case atStart=>exact ⟨0,[],_,_,0,Nat.zero_le _,rfl,rfl,rfl,Nat.zero_le _,o0,by simp,b0⟩
 case round =>
  obtain ⟨k,zs,az,cz,nz,hk,rfl,rfl,hzs,hnz,how,hz,hb⟩:=hrel;clear o0 b0;have hws:=hb.size;by_cases hlt:k < n
  ·obtain ⟨x,b,off,hx,rfl,a0,a1,a2,a3,a4⟩:=zbH (h.below hb) k hlt;have hdr:=zbj hx;rw [hdr] at hz;cases hs:x.s
   ·rw [hs] at a4;by_cases ha:x.a < 4
    ·obtain ⟨-,-,-,r1,r2⟩:=hR x (List.mem_of_getElem? hx);have hw:IntKind.i64.wrap (x.a+1)=x.a+1:=zcA _ (by omega);have hcs:(#[.int .i64 x.t,.int .i64 x.m,.int .i64 x.p,.int .i64 (x.a+1),.bool false]:Array Value).toList=fentF.cs ((⟨x.t,x.m,x.p,x.a+1,x.s⟩:FE)):=by simp [fentF, *]
     have HCS:=hide hcs;clear hcs;have hl1:(zs++[(⟨x.t,x.m,x.p,x.a+1,x.s⟩:FE)]).length=nz+1:=by simp [hzs]
     have HL:=hide hl1;have how1:=zl how (zX wr (.cells #[.int .i64 x.t,.int .i64 x.m,.int .i64 x.p,.int .i64 (x.a+1),.bool false] 95) (.cells #[.int .i64 x.t,.int .i64 x.m,.int .i64 x.p,.int .i64 (x.a+1),.bool false] 95));have HBR:=hide (zc hb (zX wr (.cells #[.int .i64 x.t,.int .i64 x.m,.int .i64 x.p,.int .i64 (x.a+1),.bool false] 95) (.cells #[.int .i64 x.t,.int .i64 x.m,.int .i64 x.p,.int .i64 (x.a+1),.bool false] 95)));have hbase9:w.heap.size≤((wr.alloc (.cells #[.int .i64 x.t,.int .i64 x.m,.int .i64 x.p,.int .i64 (x.a+1),.bool false] 95)).alloc (.cells #[.int .i64 x.t,.int .i64 x.m,.int .i64 x.p,.int .i64 (x.a+1),.bool false] 95)).heap.size:=by simp; omega
     have HQ:=hide (show zs++[(⟨x.t,x.m,x.p,x.a+1,x.s⟩:FE)]++ageF (l.drop (k+1))=ageF l from (zlb hs ha).trans hz);clear how hb hz hl1;(try clear hs);go_wp2_with (at_builtin; refine zah _ rfl _ _ rfl w.heap.size _ nz zs rfl how1 _ 1 1 [(⟨x.t,x.m,x.p,x.a+1,x.s⟩:FE)] rfl (zh0 fentF _ _ ((⟨x.t,x.m,x.p,x.a+1,x.s⟩:FE)) _ _ HCS.out) (by omega) hbase9 ?_)
     intro ao9 cap9 w9 how9 hr9 hgr9 hb9;have HB9:=hide (HBR.out.trans hb9);have HO:=hide how9;clear how9 hr9 hgr9 hb9 how1 HBR;go_wp2
     go_roundw
     case rel=>exact ⟨k+1,zs++[(⟨x.t,x.m,x.p,x.a+1,x.s⟩:FE)],ao9,cap9,nz+1,by omega,by go_num,rfl,HL.out,by omega,HO.out,HQ.out,HB9.out⟩
     case measure=>simp [intOf]; omega
    ·have ha2:(4:Int)≤x.a:=by omega
     have HO:=hide (zl how (zg wr (.cells #[.int .i64 x.t,.int .i64 x.m,.int .i64 x.p,.int .i64 x.a,.bool false] 95)));have HB9:=hide (zc hb (zg wr (.cells #[.int .i64 x.t,.int .i64 x.m,.int .i64 x.p,.int .i64 x.a,.bool false] 95)));have HQ:=hide (show zs++ageF (l.drop (k+1))=ageF l from (zly hs ha).trans hz);clear how hb hz;go_wp2
     go_roundw
     case rel=>exact ⟨k+1,zs,az,cz,nz,by omega,by go_num,rfl,hzs,by omega,HO.out,HQ.out,HB9.out⟩
     case measure=>simp [intOf]; omega
   ·rw [hs] at a4;have hcs:(#[.int .i64 x.t,.int .i64 x.m,.int .i64 x.p,.int .i64 x.a,.bool true]:Array Value).toList=fentF.cs (x):=by simp [fentF, *]
    have HCS:=hide hcs;clear hcs;have hl1:(zs++[x]).length=nz+1:=by simp [hzs]
    have HL:=hide hl1;have how1:=zl how (zX wr (.cells #[.int .i64 x.t,.int .i64 x.m,.int .i64 x.p,.int .i64 x.a,.bool true] 95) (.cells #[.int .i64 x.t,.int .i64 x.m,.int .i64 x.p,.int .i64 x.a,.bool true] 95));have HBR:=hide (zc hb (zX wr (.cells #[.int .i64 x.t,.int .i64 x.m,.int .i64 x.p,.int .i64 x.a,.bool true] 95) (.cells #[.int .i64 x.t,.int .i64 x.m,.int .i64 x.p,.int .i64 x.a,.bool true] 95)));have hbase9:w.heap.size≤((wr.alloc (.cells #[.int .i64 x.t,.int .i64 x.m,.int .i64 x.p,.int .i64 x.a,.bool true] 95)).alloc (.cells #[.int .i64 x.t,.int .i64 x.m,.int .i64 x.p,.int .i64 x.a,.bool true] 95)).heap.size:=by simp; omega
    have HQ:=hide (show zs++[x]++ageF (l.drop (k+1))=ageF l from (zke hs).trans hz);clear how hb hz hl1;(try clear hs);go_wp2_with (at_builtin; refine zah _ rfl _ _ rfl w.heap.size _ nz zs rfl how1 _ 1 1 [x] rfl (zh0 fentF _ _ (x) _ _ HCS.out) (by omega) hbase9 ?_)
    intro ao9 cap9 w9 how9 hr9 hgr9 hb9;have HB9:=hide (HBR.out.trans hb9);have HO:=hide how9;clear how9 hr9 hgr9 hb9 how1 HBR;go_wp2
    go_roundw
    case rel=>exact ⟨k+1,zs++[x],ao9,cap9,nz+1,by omega,by go_num,rfl,HL.out,by omega,HO.out,HQ.out,HB9.out⟩
    case measure=>simp [intOf]; omega
  ·have hkn:k=n:=by omega
   subst hkn;rw [List.drop_eq_nil_of_le (by omega)] at hz;have hz:zs=ageF l:=by simpa [ageF] using hz
   have hl:nz=(ageF l).length:=by rw [← hz]; exact hzs.symm
   rw [hz] at how;subst hl;have HO:=hide how;have HR:=hide (zD how);have HB:=hide hb;clear how hb;go_wp2;go_ret;exact ⟨_,_,rfl,HO.out,HR.out,HB.out⟩

theorem zft {x:FE} {p:Int} {zs r:List FE} (h:(x.s || (x.p != p))=true):zs++[x]++zY r p=zs++zY (x::r) p:=by
 have:zY (x::r) p=x::zY r p:=by unfold zY; rw [List.filter_cons,if_pos h]
 rw [this]; simp
theorem zkr {x:FE} {p:Int} {zs r:List FE} (h:(x.s || (x.p != p))=false):zs++zY r p=zs++zY (x::r) p:=by
 have:zY (x::r) p=zY r p:=by unfold zY; rw [List.filter_cons,if_neg (by rw [h]; exact Bool.false_ne_true)]
 rw [this]

theorem zgd (ao:Option Addr) (n cap:Nat) (l:List FE) (p:Int) (w:World) (h:GRow fentF w ao n cap l) (hn:n≤16777216) :
  Calls Tryz.prog 89 #[.slice ao n cap,.int .i64 p] w fun r w'=>∃ao' cap',r=.returned (.slice ao' (zY l p).length cap')∧w'.ownsRow w.heap.size 95 5 (.slice ao' (zY l p).length cap') (zY l p).length (fentF.all (zY l p))∧GRow fentF w' ao' (zY l p).length cap' (zY l p)∧Below w.heap.size w w':=by
 have hle:=h.le;have htop:=h.top;unfold maxLen at htop;have hsz:=h.size;have o0:=zaE fentF w _ 95 _ (zt w (.cells #[] 95)) (Nat.le_refl _);have b0:=zg w (.cells #[] 95);go_enter Tryz.func89,Tryz.ntmps89;go_wp2
 go_loopw [5,6] (fun o i wr=>∃(k:Nat) (zs:List FE) (az:Option Addr) (cz nz:Nat),k≤n∧i=.int .i64 k∧o=.slice az nz cz∧zs.length=nz∧nz≤k∧wr.ownsRow w.heap.size 95 5 (.slice az nz cz) nz (fentF.all zs)∧zs++zY (l.drop k) p=zY l p∧Below w.heap.size w wr) (fun _ i _=>n - (intOf i).toNat)
 case atStart=>exact ⟨0,[],_,_,0,Nat.zero_le _,rfl,rfl,rfl,Nat.zero_le _,o0,by simp,b0⟩
 case round =>
  obtain ⟨k,zs,az,cz,nz,hk,rfl,rfl,hzs,hnz,how,hz,hb⟩:=hrel;clear o0 b0;have hws:=hb.size;by_cases hlt:k < n
  ·obtain ⟨x,b,off,hx,rfl,a0,a1,a2,a3,a4⟩:=zbH (h.below hb) k hlt;have hdr:=zbj hx;rw [hdr] at hz;cases hs:x.s
   ·rw [hs] at a4;cases hp:(x.p != p)
    ·have hq:(x.s || (x.p != p))=false:=by rw [hs,hp]; rfl
     have HO:=hide how;have HB9:=hide hb;have HQ:=hide (show zs++zY (l.drop (k+1)) p=zY l p from (zkr hq).trans hz);clear how hb hz;go_wp2
     go_roundw
     case rel=>exact ⟨k+1,zs,az,cz,nz,by omega,by go_num,rfl,hzs,by omega,HO.out,HQ.out,HB9.out⟩
     case measure=>simp [intOf]; omega
    ·have hq:(x.s || (x.p != p))=true:=by rw [hs,hp]; rfl
     have hcs:(#[.int .i64 x.t,.int .i64 x.m,.int .i64 x.p,.int .i64 x.a,.bool false]:Array Value).toList=fentF.cs (x):=by simp [fentF, *]
     have HCS:=hide hcs;clear hcs;have hl1:(zs++[x]).length=nz+1:=by simp [hzs]
     have HL:=hide hl1;have how1:=zl how (zg wr (.cells #[.int .i64 x.t,.int .i64 x.m,.int .i64 x.p,.int .i64 x.a,.bool false] 95));have HBR:=hide (zc hb (zg wr (.cells #[.int .i64 x.t,.int .i64 x.m,.int .i64 x.p,.int .i64 x.a,.bool false] 95)));have hbase9:w.heap.size≤(wr.alloc (.cells #[.int .i64 x.t,.int .i64 x.m,.int .i64 x.p,.int .i64 x.a,.bool false] 95)).heap.size:=by simp; omega
     have HQ:=hide (show zs++[x]++zY (l.drop (k+1)) p=zY l p from (zft hq).trans hz);clear how hb hz hl1;(try clear hs);go_wp2_with (at_builtin; refine zah _ rfl _ _ rfl w.heap.size _ nz zs rfl how1 _ 1 1 [x] rfl (zax fentF _ (x) _ _ HCS.out) (by omega) hbase9 ?_)
     intro ao9 cap9 w9 how9 hr9 hgr9 hb9;have HB9:=hide (HBR.out.trans hb9);have HO:=hide how9;clear how9 hr9 hgr9 hb9 how1 HBR;go_wp2
     go_roundw
     case rel=>exact ⟨k+1,zs++[x],ao9,cap9,nz+1,by omega,by go_num,rfl,HL.out,by omega,HO.out,HQ.out,HB9.out⟩
     case measure=>simp [intOf]; omega
   ·rw [hs] at a4;have hq:(x.s || (x.p != p))=true:=by rw [hs]; rfl
    have hcs:(#[.int .i64 x.t,.int .i64 x.m,.int .i64 x.p,.int .i64 x.a,.bool true]:Array Value).toList=fentF.cs (x):=by simp [fentF, *]
    have HCS:=hide hcs;clear hcs;have hl1:(zs++[x]).length=nz+1:=by simp [hzs]
    have HL:=hide hl1;have how1:=zl how (zg wr (.cells #[.int .i64 x.t,.int .i64 x.m,.int .i64 x.p,.int .i64 x.a,.bool true] 95));have HBR:=hide (zc hb (zg wr (.cells #[.int .i64 x.t,.int .i64 x.m,.int .i64 x.p,.int .i64 x.a,.bool true] 95)));have hbase9:w.heap.size≤(wr.alloc (.cells #[.int .i64 x.t,.int .i64 x.m,.int .i64 x.p,.int .i64 x.a,.bool true] 95)).heap.size:=by simp; omega
    have HQ:=hide (show zs++[x]++zY (l.drop (k+1)) p=zY l p from (zft hq).trans hz);clear how hb hz hl1;(try clear hs);go_wp2_with (at_builtin; refine zah _ rfl _ _ rfl w.heap.size _ nz zs rfl how1 _ 1 1 [x] rfl (zax fentF _ (x) _ _ HCS.out) (by omega) hbase9 ?_)
    intro ao9 cap9 w9 how9 hr9 hgr9 hb9;have HB9:=hide (HBR.out.trans hb9);have HO:=hide how9;clear how9 hr9 hgr9 hb9 how1 HBR;go_wp2
    go_roundw
    case rel=>exact ⟨k+1,zs++[x],ao9,cap9,nz+1,by omega,by go_num,rfl,HL.out,by omega,HO.out,HQ.out,HB9.out⟩
    case measure=>simp [intOf]; omega
  ·have hkn:k=n:=by omega
   subst hkn;rw [List.drop_eq_nil_of_le (by omega)] at hz;have hz:zs=zY l p:=by simpa [zY] using hz
   have hl:nz=(zY l p).length:=by rw [← hz]; exact hzs.symm
   rw [hz] at how;subst hl;have HO:=hide how;have HR:=hide (zD how);have HB:=hide hb;clear how hb;go_wp2;go_ret;exact ⟨_,_,rfl,HO.out,HR.out,HB.out⟩

end Go.Proofs.YtkcoehmpnkdinaaGreat
