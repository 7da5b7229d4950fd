/-
  Packed: NetOkJ MapWalk FdbList.
-/
import Derived.Test.YtpaneiaflfegoaaGreatPTKW
import Derived.Test.YtpaneiaflfegoaaGreatPTFdbTable
import Derived.Test.YtpaneiaflfegoaaGreatPTK01
import Derived.Test.YtpaneiaflfegoaaGreatPTK15
import Derived.Test.YtpaneiaflfegoaaGreatPTNetOkT
import Derived.Laws.CopyRow
import Derived.Lib.AppendZeros
import Derived.Lib.Overlaps
namespace Go.Proofs.YtpaneiaflfegoaaGreat
set_option maxRecDepth 100000
set_option maxHeartbeats 16000000
open Go.RowKit

abbrev q172:Oper:=⟨some 30,.move (.tmp 7),167,"l13_net.go:134",#[],none⟩
abbrev q173:Oper:=⟨some 31,.binOp .eql 167 (.tmp 30) (.const (.pointer none)) 167,4,"l13_net.go:134",#[⟨0,.data⟩],none⟩
abbrev q174:Oper:=⟨some 32,.move (.tmp 31),4,"l13_net.go:134",#[⟨1,.data⟩],none⟩
abbrev q175:Oper:=⟨some 33,.move (.tmp 8),167,"l13_net.go:134",#[⟨2,.guard⟩],some (2,false)⟩
abbrev q176:Oper:=⟨some 34,.binOp .eql 167 (.tmp 33) (.const (.pointer none)) 167,4,"l13_net.go:134",#[⟨3,.data⟩,⟨2,.guard⟩],some (2,false)⟩
abbrev q177:Oper:=⟨some 35,.pick (.tmp 32) (.const (.bool true)) (.tmp 34),4,"l13_net.go:134",#[⟨2,.data⟩,⟨4,.data⟩],none⟩
abbrev q178:Oper:=⟨some 36,.move (.tmp 35),4,"l13_net.go:134",#[⟨5,.data⟩,⟨2,.chain⟩],none⟩
abbrev q179:Oper:=⟨some 37,.fieldAddr 98 (.tmp 5) 0,0,"l13_net.go:134",#[⟨6,.guard⟩],some (6,false)⟩
abbrev q180:Oper:=⟨some 38,.load 3 (.tmp 37),3,"l13_net.go:134",#[⟨7,.data⟩,⟨6,.guard⟩],some (6,false)⟩
abbrev q181:Oper:=⟨some 39,.fieldAddr 98 (.tmp 5) 2,0,"l13_net.go:134",#[⟨6,.guard⟩],some (6,false)⟩
abbrev q182:Oper:=⟨some 40,.load 3 (.tmp 39),3,"l13_net.go:134",#[⟨9,.data⟩,⟨6,.guard⟩],some (6,false)⟩
abbrev q183:Oper:=⟨some 41,.binOp .eql 3 (.tmp 38) (.tmp 40) 3,4,"l13_net.go:134",#[⟨8,.data⟩,⟨10,.data⟩,⟨6,.guard⟩],some (6,false)⟩
abbrev q184:Oper:=⟨some 42,.pick (.tmp 36) (.const (.bool true)) (.tmp 41),4,"l13_net.go:134",#[⟨6,.data⟩,⟨11,.data⟩],none⟩
abbrev q185:Oper:=⟨some 43,.move (.tmp 42),4,"l13_net.go:134",#[⟨12,.data⟩,⟨6,.chain⟩],none⟩
abbrev q186:Oper:=⟨some 44,.move (.tmp 7),167,"l13_net.go:134",#[⟨13,.guard⟩],some (13,false)⟩
abbrev q187:Oper:=⟨some 45,.nilCheck (.tmp 44),0,"l13_net.go:134",#[⟨14,.data⟩,⟨13,.guard⟩],some (13,false)⟩
abbrev q188:Oper:=⟨some 46,.fieldAddr 103 (.tmp 45) 0,0,"l13_net.go:134",#[⟨15,.data⟩,⟨13,.guard⟩],some (13,false)⟩
abbrev q189:Oper:=⟨some 47,.load 4 (.tmp 46),4,"l13_net.go:134",#[⟨16,.data⟩,⟨13,.guard⟩],some (13,false)⟩
abbrev q190:Oper:=⟨some 48,.move (.tmp 8),167,"l13_net.go:134",#[⟨13,.guard⟩],some (13,false)⟩
abbrev q191:Oper:=⟨some 49,.nilCheck (.tmp 48),0,"l13_net.go:134",#[⟨18,.data⟩,⟨13,.guard⟩],some (13,false)⟩
abbrev q192:Oper:=⟨some 50,.fieldAddr 103 (.tmp 49) 0,0,"l13_net.go:134",#[⟨19,.data⟩,⟨13,.guard⟩],some (13,false)⟩
abbrev q193:Oper:=⟨some 51,.load 4 (.tmp 50),4,"l13_net.go:134",#[⟨20,.data⟩,⟨13,.guard⟩],some (13,false)⟩
abbrev q194:Oper:=⟨some 52,.binOp .neq 4 (.tmp 47) (.tmp 51) 4,4,"l13_net.go:134",#[⟨17,.data⟩,⟨21,.data⟩,⟨13,.guard⟩],some (13,false)⟩
abbrev q195:Oper:=⟨some 53,.pick (.tmp 43) (.const (.bool true)) (.tmp 52),4,"l13_net.go:134",#[⟨13,.data⟩,⟨22,.data⟩],none⟩

def endF:Flat (Int × Int) where
 k:=2
 cs:=fun x=>[.int .i64 x.1,.int .i64 x.2]
 len:=fun _=>rfl
 pos:=by decide
 one:=fun _ v hv=>by
  simp only [List.mem_cons,List.not_mem_nil,or_false] at hv;rcases hv with rfl | rfl <;> rfl

theorem zl4 {w:World} {ao:Option Addr} {len cap:Nat} {l:List (Int × Int)} (h:GRow endF w ao len cap l) (i:Nat) (hi:i < len):∃(x:Int × Int) (b off:Nat),l[i]?=some x∧ao=some ⟨b,off,none⟩∧w.cell? ⟨b,off+i*2,none⟩=some (.int .i64 x.1)∧w.cell? ⟨b,off+i*2+1,none⟩=some (.int .i64 x.2):=by
 obtain ⟨x,b,off,hx,ha,hc⟩:=h.at i hi;exact ⟨x,b,off,hx,ha,hc 0 _ rfl,hc 1 _ rfl⟩

theorem zju:(Tryz.prog.info? 164).map (fun i=>(i.zero,i.size,i.bytes))=some (some (.agg #[.int .i64 0,.int .i64 0]),endF.k,16):=by kernel_rfl

theorem zij {w:World} {g:Nat} {T:TypeId} {x:LK} (h:w.heap[g]?=some (.cells #[.int .i64 x.a,.int .i64 x.p,.int .i64 x.b,.int .i64 x.q] T)):GRow endF w (some ⟨g,0,none⟩) 2 2 [(x.a,x.p),(x.b,x.q)]:=by
 obtain ⟨c0,c1,c2,c3⟩:=zM h;refine ⟨rfl,Nat.le_refl _,by unfold maxLen; omega,(by intro e; cases e),.inr ⟨g,0,rfl, ?_⟩⟩;intro i y hi j v hv
 match i,hi with
 | 0,hi =>
  cases hi
  match j,hv with
  | 0,hv=>cases hv; exact c0
  | 1,hv=>cases hv; exact c1
 | 1,hi =>
  cases hi
  match j,hv with
  | 0,hv=>cases hv; exact c2
  | 1,hv=>cases hv; exact c3

theorem zaS {w:World} {g:Nat} {o:Obj} (h:w.heap[g]?=some o):g+1≤w.heap.size:=by
 by_cases hg:g < w.heap.size
 ·exact hg
 ·rw [Array.getElem?_eq_none (by omega)] at h; cases h

theorem zc5 {ls:List LK} {k:Nat} {x:LK} (h:ls[k]?=some x):endsL (ls.take (k+1))=endsL (ls.take k)++[(x.a,x.p),(x.b,x.q)]:=by
 rw [List.take_add_one,h,zfu]
 rfl
theorem zcA {ls:List LK} {k:Nat} {x:LK} (h:ls[k]?=some x):endsL ls=endsL (ls.take k)++((x.a,x.p)::(x.b,x.q)::endsL (ls.drop (k+1))):=by
 obtain ⟨hk,rfl⟩:=List.getElem?_eq_some_iff.1 h;rw [← zd8,← zfu,← List.drop_eq_getElem_cons hk,List.take_append_drop]

theorem zgb (a:Option Addr) (n c:Nat) (l:List (Int × Int)) (b p:Int) (w:World) (h:GRow endF w a n c l) :
  Calls Tryz.prog 154 #[.slice a n c,.agg #[.int .i64 b,.int .i64 p]] w fun e w'=>∃k:Int,e=.returned (.int .i64 k)∧(0≤k↔(b,p)∈l)∧Below w.heap.size w w':=by
 have hle:=h.le;have htop:=h.top;unfold maxLen at htop;have hsz:=h.size;have hgd:Tryz.prog.eqGuardType Tryz.prog.depth 164=false:=by kernel_rfl
 generalize hw1:w.alloc (Obj.cells #[.int .i64 b,.int .i64 p] 164)=w1;have b01:=zb hw1;have k1:=zk hw1;go_enter Tryz.func154,Tryz.ntmps154;go_wp2_with fail
 clear hw1
 go_loopw [8] (fun i wr=>∃k:Nat,k≤n∧i=.int .i64 k∧(∀y∈l.take k,¬y=(b,p))∧wr.heap[w.heap.size]?=some (.cells #[.int .i64 b,.int .i64 p] 164)∧Below w.heap.size w wr) (fun i _=>n - (intOf i).toNat)
 case atStart=>exact ⟨0,Nat.zero_le _,rfl,by intro y hy; simp at hy,k1,b01⟩
 case round =>
  obtain ⟨k,hk,rfl,hno,hbox,hb⟩:=hrel;clear k1 b01;obtain ⟨u0,u1⟩:=zm hbox;by_cases hlt:k < n
  ·obtain ⟨x,g,off,hx,rfl,ca0,ca1⟩:=zl4 (h.below hb) k hlt;have i1:(0:Int)≤(k:Int):=by omega
   have i2:(k:Int) < (n:Int):=by omega
   have HX:=hide hx;have HN:=hide hno;have HB:=hide (zp hb);have HBOX:Hid (wr.drew.heap[w.heap.size]?=some (.cells #[.int .i64 b,.int .i64 p] 164)):=hide hbox;clear hno hb hx hbox;by_cases t1:x=(b,p)
   ·have HF:Hid ((b,p)∈l):=hide (t1▸List.mem_of_getElem? HX.out);have he:∀W,(binOp .eql 164 (.agg #[.int .i64 b,.int .i64 p]) (.agg #[.int .i64 x.1,.int .i64 x.2])).run Tryz.prog W=.ok (.bool true) W:=fun W=>by rw [zdy,t1]; simp
    clear t1;(go_wp2_with fail)
    go_region
    go_wp2;go_ret;exact ⟨(k:Int),rfl,⟨fun _=>HF.out,fun _=>by omega⟩,HB.out⟩
   ·have HO:=hide (zbI (P:=fun y=>¬y=(b,p)) HX.out HN.out t1);have he:∀W,(binOp .eql 164 (.agg #[.int .i64 b,.int .i64 p]) (.agg #[.int .i64 x.1,.int .i64 x.2])).run Tryz.prog W=.ok (.bool false) W:=fun W=>by
     rw [zdy,show ((b == x.1) && (p == x.2))=false by
      cases h1:(b == x.1) && (p == x.2)
      ·rfl
      ·simp at h1; exact absurd (Prod.ext h1.1.symm h1.2.symm) t1]
    clear t1;(go_wp2_with fail)
    go_region
    go_wp2
    go_roundw
    case rel=>exact ⟨k+1,by omega,by go_num,HO.out,HBOX.out,HB.out⟩
    case measure=>simp [intOf]; omega
  ·have hkn:k=n:=by omega
   rw [List.take_of_length_le (by omega)] at hno;have HN:=hide hno;clear hno;subst hkn;go_wp2;go_ret;exact ⟨-1,rfl,⟨fun e=>by omega,fun hm=>absurd rfl (HN.out _ hm)⟩,hb⟩

theorem zbl (a:Option Addr) (n c:Nat) (l:List (Int × Int)) (b p:Int) (w:World) (h:GRow endF w a n c l) :
  Calls Tryz.prog 120 #[.slice a n c,.agg #[.int .i64 b,.int .i64 p]] w fun e w'=>Says ((b,p)∈l) w e w':=by
 generalize hw1:w.alloc (Obj.cells #[.int .i64 b,.int .i64 p] 164)=w1;have b01:=zb hw1;have k1:=zk hw1;obtain ⟨u0,u1⟩:=zm k1;go_enter Tryz.func120,Tryz.ntmps120;go_wp2_with fail
 refine (zgb a n c l b p _ (h.below b01)).mono ?_;rintro e w2 ⟨k,rfl,hk,hb⟩;have HK:=hide hk;have HB:=hide (zc b01 hb);clear hk hb u0 u1;go_wp2;go_ret;exact ⟨decide (0≤k),zK (by simp),by rw [← HK.out]; simp,HB.out⟩

theorem zfD (N:NV) (w:World) (h:zae w N) :
  Calls Tryz.prog 67 #[.agg #[.slice N.ba N.bn N.bc,.slice N.la N.ln N.lc,.slice N.sa N.sn N.sc]] w fun e w'=>Says (zbe N.brs N.ls) w e w':=by
 obtain ⟨ba,bn,bc,bs,la,ln,lc,ls,sa,sn,sc,ss⟩:=N;have hL:=h.l;have hle:=Nat.le_trans hL.le hL.top;unfold maxLen at hle;have hsz:=hL.size;generalize hbR:NV.brs ⟨ba,bn,bc,bs,la,ln,lc,ls,sa,sn,sc,ss⟩=bR;have HBR:=hide hbR;clear hbR;dsimp only at hL hle hsz ⊢;generalize hw1:w.alloc (Obj.cells #[.slice ba bn bc,.slice la ln lc,.slice sa sn sc] 34)=w1;have b01:=zb hw1;have k1:=zk hw1;obtain ⟨x0,x1,x2⟩:=zd k1;by_cases l9:(ln:Int) > 9
 ·have HNO:Hid ((false=true)↔zbe bR ls):=hide (zaF fun hp=>by have:=hp.1; omega);go_enter Tryz.func67,Tryz.ntmps67;go_wp2;go_ret;exact ⟨false,rfl,HNO.out,b01⟩
 go_enter Tryz.func67,Tryz.ntmps67;go_wp2_with fail
 clear x0 x1 x2 hw1
 go_loopw [3,16] (fun t i wr=>∃(k:Nat) (ta:Option Addr) (tc:Nat),k≤ln∧i=.int .i64 k∧t=.slice ta (2*k) tc∧(∀y∈ls.take k,zbt bR y)∧(endsL (ls.take k)).Nodup∧wr.ownsRow (w.heap.size+1) 164 2 (.slice ta (2*k) tc) (2*k) (endF.all (endsL (ls.take k)))∧wr.heap[w.heap.size]?=some (.cells #[.slice ba bn bc,.slice la ln lc,.slice sa sn sc] 34)∧Below w.heap.size w wr) (fun _ i _=>ln - (intOf i).toNat)
 case atStart=>exact ⟨0,none,0,Nat.zero_le _,rfl,rfl,by intro y hy; simp at hy,by simp [endsL],World.ownsRow_nil _ _ _ _,k1,b01⟩
 case round =>
  obtain ⟨k,ta,tc,hk,rfl,rfl,hep,hnd,oT,hbox,hb⟩:=hrel;clear k1 b01;by_cases hlt:k < ln
  ·obtain ⟨x,lb,lo,hx,rfl,a0,a1,a2,a3⟩:=zaw (hL.below hb) k hlt;have i1:(0:Int)≤(k:Int):=by omega
   have i2:(k:Int) < (ln:Int):=by omega
   have hmem:=List.mem_of_getElem? hx;have HX:=hide hx;have HEP:=hide hep;have HNDP:=hide hnd;have hN:zae w ⟨ba,bn,bc,bs,some ⟨lb,lo,none⟩,ln,lc,ls,sa,sn,sc,ss⟩:=h;generalize hwa:wr.alloc (Obj.cells #[.int .i64 x.a,.int .i64 x.p,.int .i64 x.b,.int .i64 x.q] 98)=wa;have ba9:=zb hwa;have ka:=zk hwa;have kNe:=za hbox ba9;have oT:=zi oT ba9;have b0a:=zc hb ba9;obtain ⟨y0,y1,y2,y3⟩:=zM ka;clear hx hep hnd hbox;(go_wp2_with fail);refine (zb8 x _).mono ?_;rintro e we ⟨rfl,hbe⟩;have kL:=za ka hbe;have kNe:=za kNe hbe;have oT:=zi oT hbe;have b0e:=zc b0a hbe;generalize hRR:wr.heap.size=L at *;clear hwa y0 y1 y2 y3 ka ba9 hbe b0a a0 a1 a2 a3 hb;generalize hwq:we.alloc (Obj.cells #[.int .i64 x.a,.int .i64 x.p,.int .i64 x.b,.int .i64 x.q] 165)=wq;have bq0:=zb hwq;have kE:=zk hwq;have kL:=za kL bq0;have kNe:=za kNe bq0;have oT:=zi oT bq0;have bq:=zc b0e bq0;generalize hEE:we.heap.size=E at *;clear bq0 b0e;(go_upto_region 8 with fail)
   go_cut [7,8] from 22 to 29 (fun s t wx=>∃v1 v2:Option Addr,s=.pointer v1∧t=.pointer v2∧PtAt wx v1 (zaG (NV.brs ⟨ba,bn,bc,bs,some ⟨lb,lo,none⟩,ln,lc,ls,sa,sn,sc,ss⟩) x.a x.p)∧PtAt wx v2 (zaG (NV.brs ⟨ba,bn,bc,bs,some ⟨lb,lo,none⟩,ln,lc,ls,sa,sn,sc,ss⟩) x.b x.q)∧Below wq.heap.size wq wx)
   case first =>
    have vv:Below wq.heap.size wq wq.drew:=zp (Below.refl _ _);refine wp_region_held_drew (S:=(fun W=>(W.cell? ⟨w.heap.size,0,none⟩=some (.slice ba bn bc)∧W.cell? ⟨w.heap.size,1,none⟩=some (.slice (some ⟨lb,lo,none⟩) ln lc)∧W.cell? ⟨w.heap.size,2,none⟩=some (.slice sa sn sc))∧(W.cell? ⟨E,0,none⟩=some (.int .i64 x.a)∧W.cell? ⟨E,1,none⟩=some (.int .i64 x.p)∧W.cell? ⟨E,2,none⟩=some (.int .i64 x.b)∧W.cell? ⟨E,3,none⟩=some (.int .i64 x.q)))) (by kernel_rfl) (⟨zd (za kNe vv),zM (za kE vv)⟩) (fun hHeld => ?_);refine kK 0 ⟨some 22,.load 34 (.tmp 1),34,"l13_net.go:133",#[],none⟩ ?_;refine kK 1 ⟨some 23,.indexAddr 165 (.tmp 6) (.const (.int .i64 0)),0,"l13_net.go:133",#[],none⟩ ?_;refine kK 2 ⟨some 24,.load 164 (.tmp 23),164,"l13_net.go:133",#[⟨1,.data⟩],none⟩ ?_;refine kK 4 ⟨some 26,.load 34 (.tmp 1),34,"l13_net.go:133",#[],none⟩ ?_;refine kK 5 ⟨some 27,.indexAddr 165 (.tmp 6) (.const (.int .i64 1)),0,"l13_net.go:133",#[],none⟩ ?_;refine kK 6 ⟨some 28,.load 164 (.tmp 27),164,"l13_net.go:133",#[⟨5,.data⟩],none⟩ ?_;refine kR 3 ⟨some 25,.call ⟨.value (.func 119),#[.tmp 22,.tmp 24],#[34,164]⟩,167,"l13_net.go:133",#[⟨0,.data⟩,⟨2,.data⟩],none⟩ (fun K hK => ?_);go_simp;refine (zcF ⟨ba,bn,bc,bs,some ⟨lb,lo,none⟩,ln,lc,ls,sa,sn,sc,ss⟩ x.a x.p _ (hN.below (zc bq vv))).mono ?_;rintro r wz ⟨v1,rfl,v1P,hbz⟩;have v1P:=PtAt.later v1P hbz;(try have v2P:=PtAt.later v2P hbz);have vv:=zc vv hbz;(go_wp2_with fail);refine hK.out _ _ (⟨zd (za kNe vv),zM (za kE vv)⟩) (fun hHeld => ?_);clear hK K;(try simp only [Act.put,lA,lB,lC]);refine kR 7 ⟨some 29,.call ⟨.value (.func 119),#[.tmp 26,.tmp 28],#[34,164]⟩,167,"l13_net.go:133",#[⟨4,.data⟩,⟨6,.data⟩,⟨3,.chain⟩],none⟩ (fun K hK => ?_);go_simp;refine (zcF ⟨ba,bn,bc,bs,some ⟨lb,lo,none⟩,ln,lc,ls,sa,sn,sc,ss⟩ x.b x.q _ (hN.below (zc bq vv))).mono ?_;rintro r wz ⟨v2,rfl,v2P,hbz⟩;have v2P:=PtAt.later v2P hbz;(try have v1P:=PtAt.later v1P hbz);have vv:=zc vv hbz;(go_wp2_with fail);refine hK.out _ _ (⟨zd (za kNe vv),zM (za kE vv)⟩) (fun hHeld => ?_);clear hK K;(try simp only [Act.put,lA,lB,lC]);refine kK 8 ⟨some 7,.assign (.tmp 25),167,"l13_net.go:133",#[⟨3,.data⟩,⟨7,.chain⟩,⟨0,.phase⟩,⟨1,.phase⟩,⟨2,.phase⟩,⟨3,.phase⟩,{ on:=4,ground:=Ground.textOnly Departure.lateStores },{ on:=5,ground:=Ground.textOnly Departure.lateStores },{ on:=6,ground:=Ground.textOnly Departure.lateStores },{ on:=7,ground:=Ground.textOnly Departure.lateStoresUnsure }],none⟩ ?_;refine kK 9 ⟨some 8,.assign (.tmp 29),167,"l13_net.go:133",#[⟨7,.data⟩,⟨8,.chain⟩,⟨0,.phase⟩,⟨1,.phase⟩,⟨2,.phase⟩,⟨3,.phase⟩,⟨4,.phase⟩,⟨5,.phase⟩,⟨6,.phase⟩,⟨7,.phase⟩,⟨8,.phase⟩],none⟩ ?_;refine wpAnyH_done (by kernel_rfl) ?_ _;clear hHeld;(go_wp2_with fail)
    go_meet
    exact ⟨v1,v2,rfl,rfl,v1P,v2P,vv⟩
   case rest =>
    obtain ⟨v1,v2,rfl,rfl,v1P,v2P,hb9⟩:=hcut;obtain ⟨w9,hw9⟩:∃y,y=wc:=⟨_,rfl⟩;subst hw9;rw [HBR.out] at v1P v2P;have kL:=za kL hb9;have kE:=za kE hb9;have kNe:=za kNe hb9;have oT:=zi oT hb9;have bc9:=zc bq hb9;clear hb9 bq;have vv:Below w9.heap.size w9 w9.drew:=zp (Below.refl _ _);have i4:(2*(k:Nat))+2=2*(k+1):=by omega
    cases hP:zaG bR x.a x.p with
    | none =>
     rw [hP] at v1P;have e1:v1=none:=v1P;subst e1;have HNO:Hid ((false=true)↔zbe bR ls):=hide (zaF fun hp=>by
      obtain ⟨u,v,hu,-⟩:=(hp.2 x hmem).1.2;rw [hP] at hu;cases hu)
     clear v1P v2P;(go_wp2_with fail);refine wp_region_held_drew (S:=(fun W=>W.cell? ⟨L,0,none⟩=some (.int .i64 x.a)∧W.cell? ⟨L,1,none⟩=some (.int .i64 x.p)∧W.cell? ⟨L,2,none⟩=some (.int .i64 x.b)∧W.cell? ⟨L,3,none⟩=some (.int .i64 x.q))) (by kernel_rfl) (zM (za kL vv)) (fun hHeld => ?_);refine kK 0 q172 ?_;refine kK 1 q173 ?_;refine kK 2 q174 ?_;refine kN 3 q175 ?_;refine kN 4 q176 ?_;refine kK 5 q177 ?_;refine kK 6 q178 ?_;refine kN 7 q179 ?_;refine kN 8 q180 ?_;refine kN 9 q181 ?_;refine kN 10 q182 ?_;refine kN 11 q183 ?_;refine kK 12 q184 ?_;refine kK 13 q185 ?_;refine kN 14 q186 ?_;refine kN 15 q187 ?_;refine kN 16 q188 ?_;refine kN 17 q189 ?_;refine kN 18 q190 ?_;refine kN 19 q191 ?_;refine kN 20 q192 ?_;refine kN 21 q193 ?_;refine kN 22 q194 ?_;refine kK 23 q195 ?_;refine wpAnyH_done (by kernel_rfl) ?_ _;have HB:=hide (zc bc9 vv);clear hHeld vv kL;go_wp2;go_ret;exact ⟨false,rfl,HNO.out,HB.out⟩
    | some u =>
     rw [hP] at v1P;obtain ⟨g1,j1,rfl,d1⟩:=v1P;cases hQ:zaG bR x.b x.q with
     | none =>
      rw [hQ] at v2P;have e2:v2=none:=v2P;subst e2;have HNO:Hid ((false=true)↔zbe bR ls):=hide (zaF fun hp=>by
       obtain ⟨u,v,-,hv,-⟩:=(hp.2 x hmem).1.2;rw [hQ] at hv;cases hv)
      clear v2P;(go_wp2_with fail);refine wp_region_held_drew (S:=(fun W=>W.cell? ⟨L,0,none⟩=some (.int .i64 x.a)∧W.cell? ⟨L,1,none⟩=some (.int .i64 x.p)∧W.cell? ⟨L,2,none⟩=some (.int .i64 x.b)∧W.cell? ⟨L,3,none⟩=some (.int .i64 x.q))) (by kernel_rfl) (zM (za kL vv)) (fun hHeld => ?_);refine kK 0 q172 ?_;refine kK 1 q173 ?_;refine kK 2 q174 ?_;refine kK 3 q175 ?_;refine kK 4 q176 ?_;refine kK 5 q177 ?_;refine kK 6 q178 ?_;refine kN 7 q179 ?_;refine kN 8 q180 ?_;refine kN 9 q181 ?_;refine kN 10 q182 ?_;refine kN 11 q183 ?_;refine kK 12 q184 ?_;refine kK 13 q185 ?_;refine kN 14 q186 ?_;refine kN 15 q187 ?_;refine kN 16 q188 ?_;refine kN 17 q189 ?_;refine kN 18 q190 ?_;refine kN 19 q191 ?_;refine kN 20 q192 ?_;refine kN 21 q193 ?_;refine kN 22 q194 ?_;refine kK 23 q195 ?_;refine wpAnyH_done (by kernel_rfl) ?_ _;have HB:=hide (zc bc9 vv);clear hHeld vv kL;go_wp2;go_ret;exact ⟨false,rfl,HNO.out,HB.out⟩
     | some v =>
      rw [hQ] at v2P;obtain ⟨g2,j2,rfl,d2⟩:=v2P;by_cases hab:x.a=x.b
      ·have HNO:Hid ((false=true)↔zbe bR ls):=hide (zaF fun hp=>(hp.2 x hmem).1.1 hab);have HAB:=hide hab;clear hab;(go_wp2_with fail);have hab:=HAB.out;refine wp_region_held_drew (S:=(fun W=>W.cell? ⟨L,0,none⟩=some (.int .i64 x.a)∧W.cell? ⟨L,1,none⟩=some (.int .i64 x.p)∧W.cell? ⟨L,2,none⟩=some (.int .i64 x.b)∧W.cell? ⟨L,3,none⟩=some (.int .i64 x.q))) (by kernel_rfl) (zM (za kL vv)) (fun hHeld => ?_);refine kK 0 q172 ?_;refine kK 1 q173 ?_;refine kK 2 q174 ?_;refine kK 3 q175 ?_;refine kK 4 q176 ?_;refine kK 5 q177 ?_;refine kK 6 q178 ?_;refine kK 7 q179 ?_;refine kK 8 q180 ?_;refine kK 9 q181 ?_;refine kK 10 q182 ?_;refine kV 11 q183 (.bool true) ?_;refine kK 12 q184 ?_;refine kK 13 q185 ?_;refine kN 14 q186 ?_;refine kN 15 q187 ?_;refine kN 16 q188 ?_;refine kN 17 q189 ?_;refine kN 18 q190 ?_;refine kN 19 q191 ?_;refine kN 20 q192 ?_;refine kN 21 q193 ?_;refine kN 22 q194 ?_;refine kK 23 q195 ?_;refine wpAnyH_done (by kernel_rfl) ?_ _;have HB:=hide (zc bc9 vv);clear hHeld vv kL;go_wp2;go_ret;exact ⟨false,rfl,HNO.out,HB.out⟩
      ·have HNO:Hid (u.up≠v.up→((false=true)↔zbe bR ls)):=hide (fun hne=>zaF fun hp=>by
        obtain ⟨u',v',hu',hv',he⟩:=(hp.2 x hmem).1.2;rw [hP] at hu';rw [hQ] at hv';cases hu';cases hv';exact hne he)
       (go_wp2_with fail);refine wp_region_held_drew (S:=(fun W=>(W.cell? ⟨L,0,none⟩=some (.int .i64 x.a)∧W.cell? ⟨L,1,none⟩=some (.int .i64 x.p)∧W.cell? ⟨L,2,none⟩=some (.int .i64 x.b)∧W.cell? ⟨L,3,none⟩=some (.int .i64 x.q))∧W.cell? ⟨g1,j1,none⟩=some (.bool u.up)∧W.cell? ⟨g2,j2,none⟩=some (.bool v.up))) (by kernel_rfl) (⟨zM (za kL vv),(vv.cell (zF d1)).trans d1,(vv.cell (zF d2)).trans d2⟩) (fun hHeld => ?_);refine kK 0 q172 ?_;refine kK 1 q173 ?_;refine kK 2 q174 ?_;refine kK 3 q175 ?_;refine kK 4 q176 ?_;refine kK 5 q177 ?_;refine kK 6 q178 ?_;refine kK 7 q179 ?_;refine kK 8 q180 ?_;refine kK 9 q181 ?_;refine kK 10 q182 ?_;refine kV 11 q183 (.bool false) ?_;refine kK 12 q184 ?_;refine kK 13 q185 ?_;refine kK 14 q186 ?_;refine kK 15 q187 ?_;refine kK 16 q188 ?_;refine kK 17 q189 ?_;refine kK 18 q190 ?_;refine kK 19 q191 ?_;refine kK 20 q192 ?_;refine kK 21 q193 ?_;refine kK 22 q194 ?_;refine kK 23 q195 ?_;refine wpAnyH_done (by kernel_rfl) ?_ _;have bD:=zc bc9 vv;have kL:=za kL vv;have kE:=za kE vv;have kNe:=za kNe vv;have oT:=zi oT vv;clear hHeld vv d1 d2;have HAB:=hide hab;have HPQ:=hide (And.intro hP hQ);clear hab hP hQ;cases hu:u.up <;> cases hv:v.up
       ·have HE:Hid (zbt bR x):=hide ⟨HAB.out,u,v,HPQ.out.1,HPQ.out.2,by rw [hu,hv]⟩;obtain ⟨e0,e1,e2,e3⟩:=zM kE;(go_wp2_with fail);refine (zbl ta (2*k) tc (endsL (ls.take k)) x.a x.p _ (zB (F:=endF) oT)).mono ?_;rintro e w10 ⟨q1,rfl,hq1,hb10⟩;have kE:=za kE hb10;have kNe:=za kNe hb10;have oT:=zi oT hb10;have bD:=zc bD hb10;clear e0 e1 e2 e3 hb10 kL;have HQ1:=hide hq1;clear hq1;cases q1;rotate_left
        ·have HNO:Hid ((false=true)↔zbe bR ls):=hide (zaF fun hp=>by
          rw [zcu] at hp;have hn:=hp.2.2;rw [zcA HX.out] at hn;exact (List.nodup_append.1 hn).2.2 _ (HQ1.out.1 rfl) _ (by simp) rfl)
         go_wp2;go_ret;exact ⟨false,rfl,HNO.out,bD⟩
        obtain ⟨e0,e1,e2,e3⟩:=zM kE;(go_wp2_with fail);refine (zbl ta (2*k) tc (endsL (ls.take k)) x.b x.q _ (zB (F:=endF) oT)).mono ?_;rintro e w11 ⟨q2,rfl,hq2,hb11⟩;have kE:=za kE hb11;have kNe:=za kNe hb11;have oT:=zi oT hb11;have bD:=zc bD hb11;clear e0 e1 e2 e3 hb11;have HQ2:=hide hq2;clear hq2;cases q2;rotate_left
        ·have HNO:Hid ((false=true)↔zbe bR ls):=hide (zaF fun hp=>by
          rw [zcu] at hp;have hn:=hp.2.2;rw [zcA HX.out] at hn;exact (List.nodup_append.1 hn).2.2 _ (HQ2.out.1 rfl) _ (by simp) rfl)
         go_wp2;go_ret;exact ⟨false,rfl,HNO.out,bD⟩
        have HND:Hid ((endsL (ls.take (k+1))).Nodup):=hide (by
         rw [zc5 HX.out];refine List.nodup_append.2 ⟨HNDP.out, ?_, ?_⟩
         ·have:=HAB.out
          simp
          intro e; exact absurd e this
         ·intro a ha b hb e;subst e
          simp at hb
          rcases hb with rfl | rfl
          ·have:=HQ1.out.2 ha; cases this
          ·have:=HQ2.out.2 ha; cases this)
        have HEO:=hide (zbI HX.out HEP.out HE.out);have HEN:=hide (zc5 HX.out);have hbz:w.heap.size+1≤w11.heap.size:=zaS kNe;have hlt2:=oT.lt;go_wp2_with (at_builtin; refine zaa (F:=endF) _ rfl _ _ 162 164 rfl (w.heap.size+1) Tryz.underlying162 zju rfl (by decide) _ (2*k) (endsL (ls.take k)) rfl oT (some ⟨E,0,none⟩) 2 2 [(x.a,x.p),(x.b,x.q)] rfl (zij kE) (by omega) hbz ?_)
        intro ta' tc' w12 oT' _ hgr hbl;have HT:Hid (w12.ownsRow (w.heap.size+1) 164 2 (.slice ta' (2*(k+1)) tc') (2*(k+1)) (endF.all (endsL (ls.take (k+1))))):=hide (by rw [HEN.out]; exact oT');have HK:Hid (w12.heap[w.heap.size]?=some (.cells #[.slice ba bn bc,.slice (some ⟨lb,lo,none⟩) ln lc,.slice sa sn sc] 34)):=hide (ze kNe hgr (by intro j e; have:=(hlt2 j e).1; omega));have HB:Hid (Below w.heap.size w w12):=hide (bD.grown hgr bD.size (by intro j e; have:=(hlt2 j e).1; omega));clear oT oT' hgr hbl kE kNe bD hlt2 hbz;go_wp2
        go_roundw
        case rel=>exact ⟨k+1,ta',tc',by omega,by go_num,rfl,HEO.out,HND.out,HT.out,HK.out,HB.out⟩
        case measure=>simp [intOf]; omega
       ·have HNO:=hide (HNO.out (by rw [hu,hv]; simp));go_wp2;go_ret;exact ⟨false,rfl,HNO.out,bD⟩
       ·have HNO:=hide (HNO.out (by rw [hu,hv]; simp));go_wp2;go_ret;exact ⟨false,rfl,HNO.out,bD⟩
       ·have HE:Hid (zbt bR x):=hide ⟨HAB.out,u,v,HPQ.out.1,HPQ.out.2,by rw [hu,hv]⟩;obtain ⟨e0,e1,e2,e3⟩:=zM kE;(go_wp2_with fail);refine (zbl ta (2*k) tc (endsL (ls.take k)) x.a x.p _ (zB (F:=endF) oT)).mono ?_;rintro e w10 ⟨q1,rfl,hq1,hb10⟩;have kE:=za kE hb10;have kNe:=za kNe hb10;have oT:=zi oT hb10;have bD:=zc bD hb10;clear e0 e1 e2 e3 hb10 kL;have HQ1:=hide hq1;clear hq1;cases q1;rotate_left
        ·have HNO:Hid ((false=true)↔zbe bR ls):=hide (zaF fun hp=>by
          rw [zcu] at hp;have hn:=hp.2.2;rw [zcA HX.out] at hn;exact (List.nodup_append.1 hn).2.2 _ (HQ1.out.1 rfl) _ (by simp) rfl)
         go_wp2;go_ret;exact ⟨false,rfl,HNO.out,bD⟩
        obtain ⟨e0,e1,e2,e3⟩:=zM kE;(go_wp2_with fail);refine (zbl ta (2*k) tc (endsL (ls.take k)) x.b x.q _ (zB (F:=endF) oT)).mono ?_;rintro e w11 ⟨q2,rfl,hq2,hb11⟩;have kE:=za kE hb11;have kNe:=za kNe hb11;have oT:=zi oT hb11;have bD:=zc bD hb11;clear e0 e1 e2 e3 hb11;have HQ2:=hide hq2;clear hq2;cases q2;rotate_left
        ·have HNO:Hid ((false=true)↔zbe bR ls):=hide (zaF fun hp=>by
          rw [zcu] at hp;have hn:=hp.2.2;rw [zcA HX.out] at hn;exact (List.nodup_append.1 hn).2.2 _ (HQ2.out.1 rfl) _ (by simp) rfl)
         go_wp2;go_ret;exact ⟨false,rfl,HNO.out,bD⟩
        have HND:Hid ((endsL (ls.take (k+1))).Nodup):=hide (by
         rw [zc5 HX.out];refine List.nodup_append.2 ⟨HNDP.out, ?_, ?_⟩
         ·have:=HAB.out
          simp
          intro e; exact absurd e this
         ·intro a ha b hb e;subst e
          simp at hb
          rcases hb with rfl | rfl
          ·have:=HQ1.out.2 ha; cases this
          ·have:=HQ2.out.2 ha; cases this)
        have HEO:=hide (zbI HX.out HEP.out HE.out);have HEN:=hide (zc5 HX.out);have hbz:w.heap.size+1≤w11.heap.size:=zaS kNe;have hlt2:=oT.lt;go_wp2_with (at_builtin; refine zaa (F:=endF) _ rfl _ _ 162 164 rfl (w.heap.size+1) Tryz.underlying162 zju rfl (by decide) _ (2*k) (endsL (ls.take k)) rfl oT (some ⟨E,0,none⟩) 2 2 [(x.a,x.p),(x.b,x.q)] rfl (zij kE) (by omega) hbz ?_)
        intro ta' tc' w12 oT' _ hgr hbl;have HT:Hid (w12.ownsRow (w.heap.size+1) 164 2 (.slice ta' (2*(k+1)) tc') (2*(k+1)) (endF.all (endsL (ls.take (k+1))))):=hide (by rw [HEN.out]; exact oT');have HK:Hid (w12.heap[w.heap.size]?=some (.cells #[.slice ba bn bc,.slice (some ⟨lb,lo,none⟩) ln lc,.slice sa sn sc] 34)):=hide (ze kNe hgr (by intro j e; have:=(hlt2 j e).1; omega));have HB:Hid (Below w.heap.size w w12):=hide (bD.grown hgr bD.size (by intro j e; have:=(hlt2 j e).1; omega));clear oT oT' hgr hbl kE kNe bD hlt2 hbz;go_wp2
        go_roundw
        case rel=>exact ⟨k+1,ta',tc',by omega,by go_num,rfl,HEO.out,HND.out,HT.out,HK.out,HB.out⟩
        case measure=>simp [intOf]; omega
  ·have hkn:k=ln:=by omega
   rw [List.take_of_length_le (by omega)] at hep hnd;have HP:Hid (zbe bR ls):=hide ((zcu _ _).2 ⟨by omega,hep,hnd⟩);clear hep hnd oT;subst hkn;go_wp2;go_ret;exact ⟨true,rfl,zdE HP.out,hb⟩

theorem zcw (w:World) {ops:Array Oper} {rest:List Oper} {o:Oper} {a:Act} {Q:Exit→Act→World→Prop} (hg:o.guard=none) (m:Operand) (hop:o.op=Op.range 229 m) (b n:Nat) (g:FK→Option FE)
  (hm:a.eval m=.map (some b)) (h:MapIs mE w b n g)
  (hK:∀w' cnt,Ranging mE w' b w.heap.size n g (fun k=>(g k).isSome) cnt→Below w.heap.size w w'→w'.heap.size=w.heap.size+1→wpList Tryz.prog ops Q rest (a.put o.dst (.pointer (some ⟨w.heap.size,0,none⟩))) w') :
  wpList Tryz.prog ops Q (o::rest) a w:=by
 refine wpList_plain hg fun K' hK' => ?_
 obtain ⟨w',cnt,hrun,r1,r2,r3⟩:=h.range;have hrun:(Instr.range 229 (.map (some b))).run Tryz.prog w=.ok (.pointer (some ⟨w.heap.size,0,none⟩)) w':=hrun;unfold Oper.wp
 simp [execOp,hop,hm,hrun,Result.andThen]
 exact hK' _ _ (hK w' cnt r1 r2 r3)

structure NxS where
 y:FK
 v:FE
 w:World
 cnt:Nat

structure NxOk (w:World) (b r n:Nat) (g:FK→Option FE) (left:FK→Bool) (cnt:Nat) (s:NxS):Prop where
 ok:FKok s.y
 lf:left s.y=true
 gt:g s.y=some s.v
 rg:Ranging mE s.w b r n g (upd left s.y false) s.cnt
 lt:s.cnt < cnt
 gr:w.grownBy s.w (some r)
 en:(Instr.entry (.pointer (some ⟨r,0,none⟩))).run Tryz.prog s.w=.ok (.tuple #[.agg #[.int .i64 s.y.1,.int .i64 s.y.2.1,.int .i64 s.y.2.2],.agg #[.int .i64 s.v.t,.int .i64 s.v.m,.int .i64 s.v.p,.int .i64 s.v.a,.bool s.v.s]]) s.w

def zk8 (left:FK→Bool):Prop:=∀k,left k=false

theorem zcS (w:World) {ops:Array Oper} {rest:List Oper} {o:Oper} {a:Act} {Q:Exit→Act→World→Prop} (hg:o.guard=none) (it:Operand) (hop:o.op=Op.next it false) (b r n:Nat) (g:FK→Option FE) (left:FK→Bool) (cnt:Nat)
  (hit:a.eval it=.pointer (some ⟨r,0,none⟩)) (h:Ranging mE w b r n g left cnt)
  (hDone:zk8 left→wpList Tryz.prog ops Q rest (a.put o.dst (.tuple #[.bool false])) w)
  (hMore:∀s:NxS,NxOk w b r n g left cnt s →
   wpList Tryz.prog ops Q rest (a.put o.dst (.tuple #[.bool true,.agg #[.int .i64 s.y.1,.int .i64 s.y.2.1,.int .i64 s.y.2.2],.agg #[.int .i64 s.v.t,.int .i64 s.v.m,.int .i64 s.v.p,.int .i64 s.v.a,.bool s.v.s]])) s.w) :
  wpList Tryz.prog ops Q (o::rest) a w:=by
 refine wpList_plain hg fun K' hK' => ?_
 unfold Oper.wp;rcases h.next o.type with ⟨_,hl,hrun⟩ | ⟨y,v,w',cnt',h1,h2,h3,hrun,h4,h5,h6,h7,h8⟩
 ·simp [execOp,hop,hit,hrun,Result.andThen]
  exact hK' _ _ (hDone hl)
 ·simp [execOp,hop,hit,hrun,Result.andThen]
  exact hK' _ _ (hMore ⟨y,v,w',cnt'⟩ ⟨h1,h2,h3,h4,h5,h6,h8⟩)

def midF (f:FE→Option FE) (g:FK→Option FE) (left:FK→Bool):FK→Option FE:=fun k=>if left k=true then g k else (g k).bind f

theorem zgE (f:FE→Option FE) (g:FK→Option FE):midF f g (fun k=>(g k).isSome)=g:=by
 funext k
 unfold midF;cases h:g k <;> simp [h]

theorem zlL (f:FE→Option FE) (g:FK→Option FE) {left:FK→Bool} (h:∀k,left k=false):midF f g left=fun k=>(g k).bind f:=by
 funext k
 unfold midF;rw [h k]
 rfl

theorem zj5 {f:FE→Option FE} {g:FK→Option FE} {left:FK→Bool} {y:FK} {v:FE} (h:left y=true) (hv:midF f g left y=some v):g y=some v:=by
 unfold midF at hv;rw [if_pos h] at hv;exact hv

theorem ziu {f:FE→Option FE} {g:FK→Option FE} {left:FK→Bool} {y:FK} {v:FE} (h:left y=true) (hv:midF f g left y=some v):upd (midF f g left) y (f v)=midF f g (upd left y false):=by
 have hg:=zj5 h hv
 funext k
 by_cases e:k=y
 ·subst e;rw [zap];unfold midF;rw [zap,hg]
  rfl
 ·rw [zaf _ _ e];unfold midF;rw [zaf left _ e]

theorem zik {l:List FE} {k:FK} {e:FE} (h:zam l k=some e):e∈l:=by
 by_cases hk:k∈zan l
 ·obtain ⟨i,hi⟩:=List.getElem?_of_mem hk;obtain ⟨e',he',hk'⟩:=zlH hi;rw [h] at hk';cases hk';exact List.mem_of_getElem? he'
 ·rw [zjA l hk] at h;cases h

abbrev q306:Oper:=⟨some 18,.move (.tmp 0),226,"l08_fdb.go:173",#[],none⟩
abbrev q307:Oper:=⟨some 19,.nilCheck (.tmp 18),0,"l08_fdb.go:173",#[⟨0,.data⟩],none⟩
abbrev q308:Oper:=⟨some 20,.fieldAddr 231 (.tmp 19) 1,0,"l08_fdb.go:173",#[⟨1,.data⟩],none⟩
abbrev q309:Oper:=⟨some 21,.load 229 (.tmp 20),229,"l08_fdb.go:173",#[⟨2,.data⟩],none⟩
abbrev q310:Oper:=⟨some 22,.load 233 (.tmp 5),233,"l08_fdb.go:173",#[],none⟩
abbrev q311:Oper:=⟨some 23,.lookup 229 (.tmp 21) (.tmp 22) true,241,"l08_fdb.go:173",#[⟨3,.data⟩,⟨4,.data⟩],none⟩
abbrev q312:Oper:=⟨some 17,.move (.tmp 23),241,"l08_fdb.go:173",#[⟨5,.data⟩],none⟩
abbrev q313:Oper:=⟨some 24,.extract (.tmp 17) 0,149,"l08_fdb.go:173",#[⟨6,.data⟩],none⟩
abbrev q314:Oper:=⟨some 25,.extract (.tmp 17) 1,4,"l08_fdb.go:173",#[⟨6,.data⟩,{ on:=10,ground:=Ground.gcOnly Departure.lateStores }],none⟩
abbrev q315:Oper:=⟨some 6,.alloc 149,0,"l08_fdb.go:173",#[],none⟩
abbrev q316:Oper:=⟨none,.store 149 (.tmp 6) (.tmp 24),0,"l08_fdb.go:173",#[⟨9,.data⟩,⟨7,.data⟩,⟨0,.phase⟩,⟨1,.phase⟩,⟨2,.phase⟩,⟨3,.phase⟩,⟨4,.phase⟩,⟨5,.phase⟩,⟨6,.phase⟩,⟨7,.phase⟩,{ on:=8,ground:=Ground.textOnly Departure.lateStores },⟨9,.phase⟩],none⟩
abbrev q317:Oper:=⟨some 7,.assign (.tmp 25),4,"l08_fdb.go:173",#[⟨8,.data⟩,⟨10,.chain⟩,⟨0,.phase⟩,⟨1,.phase⟩,⟨2,.phase⟩,⟨3,.phase⟩,⟨4,.phase⟩,⟨5,.phase⟩,⟨6,.phase⟩,⟨7,.phase⟩,⟨8,.phase⟩,⟨9,.phase⟩,⟨10,.phase⟩],none⟩

theorem zit {N:Nat} (w:World) (base p bm:Nat) (ks:List FK) (g:FK→Option FE) (h:TabN N w base p bm ks g) :
  Calls Tryz.prog 186 #[.pointer (some ⟨p,0,none⟩)] w fun r w'=>∃ao' cap',r=.returned (.slice ao' (ks.filterMap g).length cap')∧w'.ownsRow w.heap.size 149 5 (.slice ao' (ks.filterMap g).length cap') (ks.filterMap g).length (fentF.all (ks.filterMap g))∧GRow fentF w' ao' (ks.filterMap g).length cap' (ks.filterMap g)∧Below w.heap.size w w':=by
 obtain ⟨ao,cap,hbox,hown⟩:=h.box;have hrow:=zB (F:=fkF) hown;have hmap:=h.map;have hoks:=h.oks;have hfew:=h.few;have htop:=Nat.le_trans hrow.le hrow.top;unfold maxLen at htop;obtain ⟨⟨p0,p1⟩,-⟩:=zau hbox;clear h hown;go_enter Tryz.func186,Tryz.ntmps186;go_wp2
 go_loopw [3,13] (fun o i wr=>∃(k:Nat) (zs:List FE) (az:Option Addr) (cz nz:Nat),k≤ks.length∧i=.int .i64 k∧o=.slice az nz cz∧zs.length=nz∧nz≤k∧wr.ownsRow w.heap.size 149 5 (.slice az nz cz) nz (fentF.all zs)∧zs++(ks.drop k).filterMap g=ks.filterMap g∧Below w.heap.size w wr) (fun _ i _=>ks.length - (intOf i).toNat)
 case atStart=>exact ⟨0,[],none,0,0,Nat.zero_le _,rfl,rfl,rfl,Nat.zero_le _,World.ownsRow_nil _ _ _ _,by simp,Below.refl _ _⟩
 case round =>
  obtain ⟨k,zs,az,cz,nz,hk,rfl,rfl,hzs,hnz,how,hz,hb⟩:=hrel;by_cases hlt:k < ks.length
  ·obtain ⟨y,b,off,hy,rfl,a0,a1,a2⟩:=fk_at (hrow.below hb) k hlt;have hyk:=hoks y (List.mem_of_getElem? hy);have hdr:ks.drop k=y::ks.drop (k+1):=by
    obtain ⟨h1,rfl⟩:=List.getElem?_eq_some_iff.1 hy;exact List.drop_eq_getElem_cons h1
   have hpx:=za hbox hb;have hmap:=hmap.kept hb;clear hy;cases hgy:g y with
   | some e =>
    have hS:∀W,Below (wr.alloc (.cells #[.int .i64 y.1,.int .i64 y.2.1,.int .i64 y.2.2] 233)).heap.size (wr.alloc (.cells #[.int .i64 y.1,.int .i64 y.2.1,.int .i64 y.2.2] 233)) W→(W.cell? ⟨p,1,none⟩=some (.map (some bm))∧(W.cell? ⟨wr.heap.size,0,none⟩=some (.int .i64 y.1)∧W.cell? ⟨wr.heap.size,1,none⟩=some (.int .i64 y.2.1)∧W.cell? ⟨wr.heap.size,2,none⟩=some (.int .i64 y.2.2))∧(Instr.lookup 229 (.map (some bm)) (.agg #[.int .i64 y.1,.int .i64 y.2.1,.int .i64 y.2.2]) true).run Tryz.prog W=.ok (.tuple #[.agg #[.int .i64 e.t,.int .i64 e.m,.int .i64 e.p,.int .i64 e.a,.bool e.s],.bool true]) W):=by
     intro W hW;have hW1:Below wr.heap.size wr W:=zc (zl wr (.cells #[.int .i64 y.1,.int .i64 y.2.1,.int .i64 y.2.2] 233)) hW;refine ⟨(zau (za hpx hW1)).1.2,(zaz (za (zr wr (.cells #[.int .i64 y.1,.int .i64 y.2.1,.int .i64 y.2.2] 233)) hW)).1, ?_⟩
     have:=(hmap.kept hW1).look true hyk
     rw [hgy] at this;exact this
    have HSS:=hide hS;clear hS;(go_wp2_with fail);refine wp_region_held_drew (S:=(fun W=>W.cell? ⟨p,1,none⟩=some (.map (some bm))∧(W.cell? ⟨wr.heap.size,0,none⟩=some (.int .i64 y.1)∧W.cell? ⟨wr.heap.size,1,none⟩=some (.int .i64 y.2.1)∧W.cell? ⟨wr.heap.size,2,none⟩=some (.int .i64 y.2.2))∧(Instr.lookup 229 (.map (some bm)) (.agg #[.int .i64 y.1,.int .i64 y.2.1,.int .i64 y.2.2]) true).run Tryz.prog W=.ok (.tuple #[.agg #[.int .i64 e.t,.int .i64 e.m,.int .i64 e.p,.int .i64 e.a,.bool e.s],.bool true]) W)) (by kernel_rfl) (by first | exact HSS.out _ (zp (Below.refl _ _)) | exact HSS.out _ (zp (zl _ _))) (fun hHeld => ?_);refine kK 0 q306 ?_;refine kK 1 q307 ?_;refine kK 2 q308 ?_;refine kK 3 q309 ?_;refine kK 4 q310 ?_;refine kK 5 q311 ?_;refine kK 6 q312 ?_;refine kK 7 q313 ?_;refine kK 8 q314 ?_;refine kR 9 q315 (fun K hK => ?_);go_simp;refine hK.out _ _ (by first | exact HSS.out _ (zp (Below.refl _ _)) | exact HSS.out _ (zp (zl _ _))) (fun hHeld => ?_);clear hK K;(try simp only [Act.put,lA,lB,lC]);refine kR 10 q316 (fun K hK => ?_);go_simp;refine hK.out _ _ (by first | exact HSS.out _ (zp (Below.refl _ _)) | exact HSS.out _ (zp (zl _ _))) (fun hHeld => ?_);clear hK K;(try simp only [Act.put,lA,lB,lC]);refine kK 11 q317 ?_;refine wpAnyH_done (by kernel_rfl) ?_ _;have o2:(((wr.alloc (.cells #[.int .i64 y.1,.int .i64 y.2.1,.int .i64 y.2.2] 233)).alloc (.cells #[.int .i64 e.t,.int .i64 e.m,.int .i64 e.p,.int .i64 e.a,.bool e.s] 149)).drew).ownsRow w.heap.size 149 5 (.slice az nz cz) nz (fentF.all zs):=zi how (zp (zce (zl wr (.cells #[.int .i64 y.1,.int .i64 y.2.1,.int .i64 y.2.2] 233)) (.cells #[.int .i64 e.t,.int .i64 e.m,.int .i64 e.p,.int .i64 e.a,.bool e.s] 149)));have b2:Below w.heap.size w (((wr.alloc (.cells #[.int .i64 y.1,.int .i64 y.2.1,.int .i64 y.2.2] 233)).alloc (.cells #[.int .i64 e.t,.int .i64 e.m,.int .i64 e.p,.int .i64 e.a,.bool e.s] 149)).drew):=zc hb (zp (zce (zl wr (.cells #[.int .i64 y.1,.int .i64 y.2.1,.int .i64 y.2.2] 233)) (.cells #[.int .i64 e.t,.int .i64 e.m,.int .i64 e.p,.int .i64 e.a,.bool e.s] 149)));have x2:(((wr.alloc (.cells #[.int .i64 y.1,.int .i64 y.2.1,.int .i64 y.2.2] 233)).alloc (.cells #[.int .i64 e.t,.int .i64 e.m,.int .i64 e.p,.int .i64 e.a,.bool e.s] 149)).drew).heap[wr.heap.size+1]?=some (.cells #[.int .i64 e.t,.int .i64 e.m,.int .i64 e.p,.int .i64 e.a,.bool e.s] 149):=by
     have:=zr (wr.alloc (.cells #[.int .i64 y.1,.int .i64 y.2.1,.int .i64 y.2.2] 233)) (.cells #[.int .i64 e.t,.int .i64 e.m,.int .i64 e.p,.int .i64 e.a,.bool e.s] 149)
     rw [show (wr.alloc (.cells #[.int .i64 y.1,.int .i64 y.2.1,.int .i64 y.2.2] 233)).heap.size=wr.heap.size+1 by simp] at this;exact this
    clear HSS hHeld how hb hpx hmap;generalize hw2:((wr.alloc (.cells #[.int .i64 y.1,.int .i64 y.2.1,.int .i64 y.2.2] 233)).alloc (.cells #[.int .i64 e.t,.int .i64 e.m,.int .i64 e.p,.int .i64 e.a,.bool e.s] 149)).drew=w2 at *;clear hw2;obtain ⟨⟨x0,x1,x3,x4,x5⟩,-⟩:=zC x2;have o3:=zi o2 (zl w2 (.cells #[.int .i64 e.t,.int .i64 e.m,.int .i64 e.p,.int .i64 e.a,.bool e.s] 149));have HBR:=hide (zc b2 (zl w2 (.cells #[.int .i64 e.t,.int .i64 e.m,.int .i64 e.p,.int .i64 e.a,.bool e.s] 149)));have hbase9:w.heap.size≤(w2.alloc (.cells #[.int .i64 e.t,.int .i64 e.m,.int .i64 e.p,.int .i64 e.a,.bool e.s] 149)).heap.size:=HBR.out.size;have hl1:(zs++[e]).length=nz+1:=by simp [hzs]
    have HL:=hide hl1;have HQ:=hide (show zs++[e]++(ks.drop (k+1)).filterMap g=ks.filterMap g by rw [← hz,hdr,List.filterMap_cons,hgy,List.append_assoc]; rfl);clear o2 b2 hz hl1 x2;go_wp2_with (at_builtin; refine zbf _ rfl _ _ rfl w.heap.size _ nz zs rfl o3 _ 1 1 [e] rfl (zcD fentF _ e _ _ rfl) (by omega) hbase9 ?_)
    intro ao9 cap9 w9 how9 hr9 hgr9 hb9;have HB9:=hide (HBR.out.trans hb9);have HO:=hide how9;clear how9 hr9 hgr9 hb9 o3 HBR x0 x1 x3 x4 x5;go_wp2
    go_roundw
    case rel=>exact ⟨k+1,zs++[e],ao9,cap9,nz+1,by omega,by go_num,rfl,HL.out,by omega,HO.out,HQ.out,HB9.out⟩
    case measure=>simp [intOf]; omega
   | none =>
    have hS:∀W,Below (wr.alloc (.cells #[.int .i64 y.1,.int .i64 y.2.1,.int .i64 y.2.2] 233)).heap.size (wr.alloc (.cells #[.int .i64 y.1,.int .i64 y.2.1,.int .i64 y.2.2] 233)) W→(W.cell? ⟨p,1,none⟩=some (.map (some bm))∧(W.cell? ⟨wr.heap.size,0,none⟩=some (.int .i64 y.1)∧W.cell? ⟨wr.heap.size,1,none⟩=some (.int .i64 y.2.1)∧W.cell? ⟨wr.heap.size,2,none⟩=some (.int .i64 y.2.2))∧(Instr.lookup 229 (.map (some bm)) (.agg #[.int .i64 y.1,.int .i64 y.2.1,.int .i64 y.2.2]) true).run Tryz.prog W=.ok (.tuple #[.agg #[.int .i64 0,.int .i64 0,.int .i64 0,.int .i64 0,.bool false],.bool false]) W):=by
     intro W hW;have hW1:Below wr.heap.size wr W:=zc (zl wr (.cells #[.int .i64 y.1,.int .i64 y.2.1,.int .i64 y.2.2] 233)) hW;refine ⟨(zau (za hpx hW1)).1.2,(zaz (za (zr wr (.cells #[.int .i64 y.1,.int .i64 y.2.1,.int .i64 y.2.2] 233)) hW)).1, ?_⟩
     have:=(hmap.kept hW1).look true hyk
     rw [hgy] at this;exact this
    have HSS:=hide hS;clear hS;(go_wp2_with fail);refine wp_region_held_drew (S:=(fun W=>W.cell? ⟨p,1,none⟩=some (.map (some bm))∧(W.cell? ⟨wr.heap.size,0,none⟩=some (.int .i64 y.1)∧W.cell? ⟨wr.heap.size,1,none⟩=some (.int .i64 y.2.1)∧W.cell? ⟨wr.heap.size,2,none⟩=some (.int .i64 y.2.2))∧(Instr.lookup 229 (.map (some bm)) (.agg #[.int .i64 y.1,.int .i64 y.2.1,.int .i64 y.2.2]) true).run Tryz.prog W=.ok (.tuple #[.agg #[.int .i64 0,.int .i64 0,.int .i64 0,.int .i64 0,.bool false],.bool false]) W)) (by kernel_rfl) (by first | exact HSS.out _ (zp (Below.refl _ _)) | exact HSS.out _ (zp (zl _ _))) (fun hHeld => ?_);refine kK 0 q306 ?_;refine kK 1 q307 ?_;refine kK 2 q308 ?_;refine kK 3 q309 ?_;refine kK 4 q310 ?_;refine kK 5 q311 ?_;refine kK 6 q312 ?_;refine kK 7 q313 ?_;refine kK 8 q314 ?_;refine kR 9 q315 (fun K hK => ?_);go_simp;refine hK.out _ _ (by first | exact HSS.out _ (zp (Below.refl _ _)) | exact HSS.out _ (zp (zl _ _))) (fun hHeld => ?_);clear hK K;(try simp only [Act.put,lA,lB,lC]);refine kR 10 q316 (fun K hK => ?_);go_simp;refine hK.out _ _ (by first | exact HSS.out _ (zp (Below.refl _ _)) | exact HSS.out _ (zp (zl _ _))) (fun hHeld => ?_);clear hK K;(try simp only [Act.put,lA,lB,lC]);refine kK 11 q317 ?_;refine wpAnyH_done (by kernel_rfl) ?_ _;have o2:(((wr.alloc (.cells #[.int .i64 y.1,.int .i64 y.2.1,.int .i64 y.2.2] 233)).alloc (.cells #[.int .i64 0,.int .i64 0,.int .i64 0,.int .i64 0,.bool false] 149)).drew).ownsRow w.heap.size 149 5 (.slice az nz cz) nz (fentF.all zs):=zi how (zp (zce (zl wr (.cells #[.int .i64 y.1,.int .i64 y.2.1,.int .i64 y.2.2] 233)) (.cells #[.int .i64 0,.int .i64 0,.int .i64 0,.int .i64 0,.bool false] 149)));have b2:Below w.heap.size w (((wr.alloc (.cells #[.int .i64 y.1,.int .i64 y.2.1,.int .i64 y.2.2] 233)).alloc (.cells #[.int .i64 0,.int .i64 0,.int .i64 0,.int .i64 0,.bool false] 149)).drew):=zc hb (zp (zce (zl wr (.cells #[.int .i64 y.1,.int .i64 y.2.1,.int .i64 y.2.2] 233)) (.cells #[.int .i64 0,.int .i64 0,.int .i64 0,.int .i64 0,.bool false] 149)));have x2:(((wr.alloc (.cells #[.int .i64 y.1,.int .i64 y.2.1,.int .i64 y.2.2] 233)).alloc (.cells #[.int .i64 0,.int .i64 0,.int .i64 0,.int .i64 0,.bool false] 149)).drew).heap[wr.heap.size+1]?=some (.cells #[.int .i64 0,.int .i64 0,.int .i64 0,.int .i64 0,.bool false] 149):=by
     have:=zr (wr.alloc (.cells #[.int .i64 y.1,.int .i64 y.2.1,.int .i64 y.2.2] 233)) (.cells #[.int .i64 0,.int .i64 0,.int .i64 0,.int .i64 0,.bool false] 149)
     rw [show (wr.alloc (.cells #[.int .i64 y.1,.int .i64 y.2.1,.int .i64 y.2.2] 233)).heap.size=wr.heap.size+1 by simp] at this;exact this
    clear HSS hHeld how hb hpx hmap;generalize hw2:((wr.alloc (.cells #[.int .i64 y.1,.int .i64 y.2.1,.int .i64 y.2.2] 233)).alloc (.cells #[.int .i64 0,.int .i64 0,.int .i64 0,.int .i64 0,.bool false] 149)).drew=w2 at *;clear hw2;have HQ:=hide (show zs++(ks.drop (k+1)).filterMap g=ks.filterMap g by rw [← hz,hdr,List.filterMap_cons,hgy]);have HO:=hide o2;have HB9:=hide b2;clear o2 b2 hz x2;go_wp2
    go_roundw
    case rel=>exact ⟨k+1,zs,az,cz,nz,by omega,by go_num,rfl,hzs,by omega,HO.out,HQ.out,HB9.out⟩
    case measure=>simp [intOf]; omega
  ·have hkn:k=ks.length:=by omega
   subst hkn;rw [List.drop_eq_nil_of_le (Nat.le_refl _)] at hz;have hz:zs=ks.filterMap g:=by simpa using hz
   have hl:nz=(ks.filterMap g).length:=by rw [← hz]; exact hzs.symm
   rw [hz] at how;subst hl;have HO:=hide how;have HR:=hide (zB how);have HB:=hide hb;clear how hb;go_wp2;go_ret;exact ⟨_,_,rfl,HO.out,HR.out,HB.out⟩

end Go.Proofs.YtpaneiaflfegoaaGreat
