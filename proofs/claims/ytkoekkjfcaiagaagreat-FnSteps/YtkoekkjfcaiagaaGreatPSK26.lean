/-
  Packed: BrInner3 NetOkI NetOkK.
-/
import Derived.Test.YtkoekkjfcaiagaaGreatPSBrOkI
import Derived.Test.YtkoekkjfcaiagaaGreatPSK01
import Derived.Test.YtkoekkjfcaiagaaGreatPSK03
import Derived.Test.YtkoekkjfcaiagaaGreatPSK06
import Derived.Test.YtkoekkjfcaiagaaGreatPSK17
import Derived.Test.YtkoekkjfcaiagaaGreatPSK18
import Derived.Test.YtkoekkjfcaiagaaGreatPSK25
namespace Go.Proofs.YtkoekkjfcaiagaaGreat
set_option maxRecDepth 100000
set_option maxHeartbeats 16000000
open Go.RowKit

def zaG (bits:Int):Nat→List Int
 | 0=>[]
 | k+1=>if bitOf bits (k:Int)=true then zaG bits k else zaG bits k++[(k:Int)]

theorem zc6 (bits:Int) (l:List FE):∀k,(zaG bits k).foldl zZ l=zaD bits l k
 | 0=>rfl
 | k+1=>by
  rw [zaG,zaD]
  split
  ·exact zc6 bits l k
  ·rw [List.foldl_append,zc6 bits l k]
   rfl

theorem zet (bits:Int):∀k,(zaG bits k).length≤k
 | 0=>Nat.le_refl _
 | k+1=>by
  rw [zaG]
  have:=zet bits k
  split
  ·omega
  ·simp; omega

theorem zhX:∀b0 b1 b2 b3 b4 b5:Bool,∀n:Fin 7,0≤zcV (six b0 b1 b2 b3 b4 b5) n.val∧zcV (six b0 b1 b2 b3 b4 b5) n.val≤63:=by
 decide +kernel

theorem ziL (id:Int) (l:List PT):0≤zbd id l∧zbd id l≤63:=by
 unfold zbd;rw [zhx];generalize (fun i:Nat=>decide (zaL id l (i:Int)≤2))=f;have hn:min l.length 6≤6:=Nat.min_le_right _ _;generalize min l.length 6=m at hn;have e:∀j,j < 6→f j=six (f 0) (f 1) (f 2) (f 3) (f 4) (f 5) j:=by
  intro j hj;rcases (show j=0∨j=1∨j=2∨j=3∨j=4∨j=5 by omega) with rfl | rfl | rfl | rfl | rfl | rfl <;> rfl
 rw [zfc f _ m (fun j hj=>e j (by omega))];exact zhX (f 0) (f 1) (f 2) (f 3) (f 4) (f 5) ⟨m,by omega⟩

theorem ziq (id:Int) (l:List PT) (k:Nat) (hk:k≤7):hasP (zbd id l) (k:Int)=bitOf (zbd id l) (k:Int):=by
 have:=ziL id l
 exact zip (by unfold I64; omega) (Or.inl (by omega))

theorem zeK (id:Int) (a:Option Addr) (n c:Nat) (l:List PT) (w:World) (h:GRow ptF w a n c l) (hn:n≤6) (bits:Int) (hbits:zbd id l=bits) :
  Calls Tryz.prog 166 #[.slice a n c,.int .i64 id] w fun e w'=>∃ao cap,e=.returned (.slice ao (zaG bits n).length cap)∧w'.ownsRow w.heap.size 3 1 (.slice ao (zaG bits n).length cap) (zaG bits n).length (intF.all (zaG bits n))∧Below w.heap.size w w':=by
 have HBI:Hid (∀k:Nat,k≤7→hasP bits (k:Int)=bitOf bits (k:Int)):=hide (fun k hk=>by rw [← hbits]; exact ziq id l k hk);have HBT:=hide hbits;clear hbits;go_enter Tryz.func166,Tryz.ntmps166;go_wp2_with fail
 refine (zfq id a n c l _ h).mono ?_;rintro e w1 ⟨rfl,hb1⟩;rw [HBT.out];go_wp2_with fail
 go_loopw [6,13] (fun p i wr=>∃(k:Nat) (ao:Option Addr) (cap:Nat),k≤n∧i=.int .i64 k∧p=.slice ao (zaG bits k).length cap∧wr.ownsRow w.heap.size 3 1 (.slice ao (zaG bits k).length cap) (zaG bits k).length (intF.all (zaG bits k))∧Below w.heap.size w wr) (fun _ i _=>n - (intOf i).toNat)
 case atStart=>exact ⟨0,none,0,Nat.zero_le _,rfl,rfl,World.ownsRow_nil _ _ _ _,hb1⟩
 case round =>
  obtain ⟨k,ao,cap,hk,rfl,rfl,own,hb⟩:=hrel;clear hb1;by_cases hlt:k < n
  ·have i1:(0:Int)≤(k:Int):=by omega
   have i2:(k:Int) < (n:Int):=by omega
   have HLQ:=hide (zet bits k);(go_wp2_with fail);refine (zei bits (k:Int) (by omega) _).mono ?_;rintro e w2 ⟨rfl,e2⟩;obtain rfl:=e2.symm;rw [HBI.out k (by omega)];cases hbk:bitOf bits (k:Int)
   ·have HF:Hid (zaG bits (k+1)=zaG bits k++[(k:Int)]):=hide (by rw [zaG,if_neg (by rw [hbk]; decide)]);clear hbk;generalize hwa:wr.alloc (Obj.cells #[Value.int .i64 k] 3)=wa;have bra:=zb hwa;have ka:=zk hwa;have gone:GRow intF wa (some ⟨wr.heap.size,0,none⟩) 1 1 [(k:Int)]:=zB (F:=intF) (zer intF (x:=(k:Int)) (base:=0) ka rfl (Nat.zero_le _));have hI2:=zh own bra;have HBA:=hide (zc hb bra);clear own hb;generalize hq:(zaG bits k).length=q at *;go_wp2_with (at_builtin; refine zM (F:=intF) _ rfl _ _ 24 3 rfl w.heap.size Tryz.underlying24 Tryz.infoI64 rfl (by decide) _ q (zaG bits k) rfl hI2 (some ⟨wr.heap.size,0,none⟩) 1 1 [(k:Int)] rfl gone (by have:=HLQ.out; omega) HBA.out.size ?_)
    intro a7 c7 w7 how hr hgr hb7;have HB7:=hide (HBA.out.trans hb7);have HQ1:Hid ((zaG bits (k+1)).length=q+1):=hide (by rw [HF.out,List.length_append,hq]; rfl);rw [← HF.out] at how;have HO:=hide how;clear how hr hgr hb7 hI2 gone ka hq;go_wp2
    go_roundw
    case rel=>exact ⟨k+1,a7,c7,by omega,by go_num,by rw [HQ1.out],by rw [HQ1.out]; exact HO.out,HB7.out⟩
    case measure=>simp [intOf]; omega
   ·have HF:Hid (zaG bits (k+1)=zaG bits k):=hide (by rw [zaG,if_pos hbk]);have HO:=hide own;clear hbk own;go_wp2
    go_roundw
    case rel=>exact ⟨k+1,ao,cap,by omega,by go_num,by rw [HF.out],by rw [HF.out]; exact HO.out,hb⟩
    case measure=>simp [intOf]; omega
  ·have hkn:k=n:=by omega
   subst hkn;have HO:=hide own;clear own;go_wp2;go_ret;exact ⟨ao,cap,rfl,HO.out,hb⟩

theorem zhM {l:List FE} (h:∀x∈l,x.Rng) (p:Int):∀x∈zZ l p,x.Rng:=fun x hx=>h x (List.mem_filter.1 hx).1

theorem zin (qs:List Int):∀{l:List FE},(∀x∈l,x.Rng)→∀x∈qs.foldl zZ l,x.Rng:=by
 induction qs with
 | nil=>exact fun h=>h
 | cons q qs ih=>exact fun h=>ih (zhM h q)

theorem zim (qs:List Int):∀{l:List FE},(qs.foldl zZ l).length≤l.length:=by
 induction qs with
 | nil=>exact Nat.le_refl _
 | cons q qs ih=>exact Nat.le_trans ih (List.length_filter_le _ _)

theorem zkt {w:World} {base:Nat} {ao:Option Addr} {n cap:Nat} {l:List Int} (h:w.ownsRow base 3 1 (.slice ao n cap) n (intF.all l)) (i:Nat) (hi:i < n):∃(z:Int) (b off:Nat),l[i]?=some z∧ao=some ⟨b,off,none⟩∧w.cell? ⟨b,off+i,none⟩=some (.int .i64 z):=by
 obtain ⟨z,b,off,hz,ha,hc⟩:=(zB (F:=intF) h).at i hi;exact ⟨z,b,off,hz,ha,by have:=hc 0 _ rfl; simpa [intF] using this⟩

theorem zeP {qs:List Int} {k:Nat} {z:Int} (hz:qs[k]?=some z) (l:List FE):(qs.take (k+1)).foldl zZ l=zZ ((qs.take k).foldl zZ l) z:=by
 rw [List.take_add_one,hz,List.foldl_append]
 rfl

theorem zbO (base:Nat) (a:Option Addr) (n c:Nat) (fa:Option Addr) (fn fc:Nat) (ra:Option Addr) (rn rc:Nat) (oa:Option Addr) (on oc:Nat) (B:BR) (w:World) (h:BrOwn w base a n c fa fn fc ra rn rc oa on oc B) (hbase:base≤w.heap.size) (hn:n≤6) (hfn:fn≤16777216) (hv:0≤B.vers∧B.vers≤1000000) (hR:∀x∈B.f,x.Rng) :
  Calls Tryz.prog 128 #[.agg #[.slice a n c,.int .i64 B.id,.string B.name,.slice none 0 0,.slice fa fn fc,.slice ra rn rc,.slice oa on oc,.int .i64 B.ticks,.int .i64 B.parse,.int .i64 B.word,.int .i64 B.drops,.int .i64 B.vers]] w fun e w'=>∃(fa2:Option Addr) (fn2 fc2:Nat),e=.returned (.agg #[.int .i64 B.id,.string B.name,.slice a n c,.slice fa2 fn2 fc2,.slice ra rn rc,.slice oa on oc,.int .i64 B.ticks,.int .i64 B.parse,.int .i64 B.word,.int .i64 B.drops,.int .i64 (zad B.vers)])∧BrOwn w' base a n c fa2 fn2 fc2 ra rn rc oa on oc (turned B)∧Below w.heap.size w w':=by
 have hpl:=hide (zB (F:=ptF) h.ports).size;have HFL:=hide (zB (F:=fentF) h.f).size;generalize hw1:w.alloc (Obj.cells #[.slice a n c,.int .i64 B.id,.string B.name,.slice none 0 0,.slice fa fn fc,.slice ra rn rc,.slice oa on oc,.int .i64 B.ticks,.int .i64 B.parse,.int .i64 B.word,.int .i64 B.drops,.int .i64 B.vers] 146)=w1;generalize hw2:w1.alloc (Obj.cells #[.int .i64 0,.string ⟨#[]⟩,.slice none 0 0,.slice none 0 0,.slice none 0 0,.slice none 0 0,.int .i64 0,.int .i64 0,.int .i64 0,.int .i64 0,.int .i64 0] 63)=w2;have b01:=zb hw1;have b12:=zb hw2;have z1:w.heap.size < w1.heap.size:=by rw [← hw1]; simp
 have st2:IbSt w w2 w1.heap.size w.heap.size #[.int .i64 0,.string ⟨#[]⟩,.slice none 0 0,.slice none 0 0,.slice none 0 0,.slice none 0 0,.int .i64 0,.int .i64 0,.int .i64 0,.int .i64 0,.int .i64 0] #[.slice a n c,.int .i64 B.id,.string B.name,.slice none 0 0,.slice fa fn fc,.slice ra rn rc,.slice oa on oc,.int .i64 B.ticks,.int .i64 B.parse,.int .i64 B.word,.int .i64 B.drops,.int .i64 B.vers] 63 146:=⟨za (zk hw1) b12,by rw [← hw2]; exact zw _ _,zc b01 b12,Nat.le_refl _,Nat.le_of_lt z1,Nat.ne_of_gt z1⟩;have own2:=h.below (zc b01 b12);obtain ⟨x0,x1,x2,x3,x4,x5,x6,x7,x8,x9,x10,x11⟩:=zaj st2.box;have f11:=zf st2.box 11;obtain ⟨V,hV⟩:∃V,V=zad B.vers:=⟨_,rfl⟩;have HV:=hide hV;have HVR:=hide hv;have HR:=hide hR;clear hv hR z1 b01 b12;go_enter Tryz.func128,Tryz.ntmps128;go_wp2_with fail
 refine (zej B.vers _ HVR.out.2 HVR.out.1).mono ?_;rintro e w3 ⟨rfl,e3⟩;obtain rfl:=e3.symm;rw [← hV];clear hV hw1 hw2;generalize hRR:w1.heap.size=R at *;have st4:=st2.put 11 (.int .i64 V) (cs':=#[.slice a n c,.int .i64 B.id,.string B.name,.slice none 0 0,.slice fa fn fc,.slice ra rn rc,.slice oa on oc,.int .i64 B.ticks,.int .i64 B.parse,.int .i64 B.word,.int .i64 B.drops,.int .i64 V]) rfl;have own4:=own2.other st2.box (by decide) (by decide) (by decide) (by decide) 11 (.int .i64 V);generalize hw4:w2.setCell ⟨w.heap.size,11,none⟩ (.int .i64 V)=w4 at st4 own4;go_upto_region 2 with fail
 clear x0 x1 x2 x3 x4 x5 x6 x7 x8 x9 x10 x11 f11 st2 own2
 try rw [hw4]
 clear hw4;obtain ⟨x0,x1,x2,x3,x4,x5,x6,x7,x8,x9,x10,x11⟩:=zaj st4.box;generalize hbits:zbd B.id B.ports=bits;have HBI:=hide hbits;go_wp2_with fail
 refine (zeK B.id a n c B.ports _ (zB (F:=ptF) own4.ports) hn bits hbits).mono ?_;rintro e w5 ⟨aq,cq,rfl,oq,hb5⟩;have st5:=st4.later hb5;have own5:=own4.below hb5;have HQ6:=hide (Nat.le_trans (zet bits n) hn);have HQF:=hide (zc6 bits B.f n);have oq:=zF oq (base':=w.heap.size) st4.below.size;clear x0 x1 x2 x3 x4 x5 x6 x7 x8 x9 x10 x11 st4 own4 hb5 hbits;generalize hqs:zaG bits n=qs at *;generalize hqn:qs.length=qn at *;have HQN:=hide hqn;clear hqn hqs;go_wp2_with fail
 go_loopw [18] (fun i wr=>∃(k:Nat) (fa2:Option Addr) (fn2 fc2:Nat),k≤qn∧i=.int .i64 k∧fn2≤fn∧IbSt w wr R w.heap.size #[.int .i64 0,.string ⟨#[]⟩,.slice none 0 0,.slice none 0 0,.slice none 0 0,.slice none 0 0,.int .i64 0,.int .i64 0,.int .i64 0,.int .i64 0,.int .i64 0] #[.slice a n c,.int .i64 B.id,.string B.name,.slice none 0 0,.slice fa2 fn2 fc2,.slice ra rn rc,.slice oa on oc,.int .i64 B.ticks,.int .i64 B.parse,.int .i64 B.word,.int .i64 B.drops,.int .i64 V] 63 146∧BrOwn wr base a n c fa2 fn2 fc2 ra rn rc oa on oc { B with f:=(qs.take k).foldl zZ B.f }∧wr.ownsRow w.heap.size 3 1 (.slice aq qn cq) qn (intF.all qs)) (fun i _=>qn - (intOf i).toNat)
 case atStart=>exact ⟨0,fa,fn,fc,Nat.zero_le _,rfl,Nat.le_refl _,st5,own5,oq⟩
 case round =>
  obtain ⟨k,fa2,fn2,fc2,hk,rfl,hf2,st,own,oq⟩:=hrel;have hq6:qn≤6:=HQ6.out;clear st5 own5;obtain ⟨x0,x1,x2,x3,x4,x5,x6,x7,x8,x9,x10,x11⟩:=zaj st.box;by_cases hlt:k < qn
  ·have i1:(0:Int)≤(k:Int):=by omega
   have i2:(k:Int) < (qn:Int):=by omega
   obtain ⟨z,qb,qo,hz,rfl,cz⟩:=zkt oq k hlt;have HF:=hide (zeP hz B.f);have HRF:Hid (∀x∈(qs.take k).foldl zZ B.f,x.Rng):=hide (zin _ HR.out);have HLF:Hid (((qs.take (k+1)).foldl zZ B.f).length≤fn):=hide (by have:=zim (qs.take (k+1)) (l:=B.f); have:=HFL.out; omega);clear hz;generalize hLS:(qs.take k).foldl zZ B.f=ls at *;(go_wp2_with fail);refine (zfl fa2 fn2 fc2 ls z _ (zB (F:=fentF) own.f) (by omega) HRF.out).mono ?_;rintro e w7 ⟨fa7,fc7,rfl,o7,-,hb7⟩;have st7:=st.later hb7;have oq7:=zh oq hb7;have o7:=zF o7 (base':=base) (Nat.le_trans hbase st.below.size);have own7:=(own.below hb7).putF (Below.refl _ _) o7;clear x0 x1 x2 x3 x4 x5 x6 x7 x8 x9 x10 x11 hb7 o7 st own cz oq;obtain ⟨x0,x1,x2,x3,x4,x5,x6,x7,x8,x9,x10,x11⟩:=zaj st7.box;have f4:=zf st7.box 4;rw [← HF.out] at own7 ⊢;generalize hL:((qs.take (k+1)).foldl zZ B.f).length=L at *;have HST:=hide (st7.put 4 (.slice fa7 L fc7) (cs':=#[.slice a n c,.int .i64 B.id,.string B.name,.slice none 0 0,.slice fa7 L fc7,.slice ra rn rc,.slice oa on oc,.int .i64 B.ticks,.int .i64 B.parse,.int .i64 B.word,.int .i64 B.drops,.int .i64 V]) rfl);have HOW:=hide (own7.other st7.box (by decide) (by decide) (by decide) (by decide) 4 (.slice fa7 L fc7));have HOQ:=hide (st7.stay oq7 (by decide) 4 (.slice fa7 L fc7));clear st7 own7 oq7 hL;go_wp2
   go_roundw
   case rel=>exact ⟨k+1,fa7,L,fc7,by omega,by go_num,HLF.out,HST.out,HOW.out,HOQ.out⟩
   case measure=>simp [intOf]; omega
  ·have hkn:k=qn:=by omega
   subst hkn;have HT:Hid (turned B={ B with vers:=V,f:=(qs.take k).foldl zZ B.f }):=hide (by unfold turned; rw [HBI.out,hpl.out,HV.out,← HQF.out,List.take_of_length_le (by rw [HQN.out]; exact Nat.le_refl _)]);have HST:=hide st;have HOW:=hide own;clear st own oq;(go_wp2_with fail);refine (zaz a n c fa2 fn2 fc2 ra rn rc oa on oc { B with vers:=V } _).mono ?_;rintro e w8 ⟨rfl,hb8⟩;have st8:=HST.out.later hb8;have own8:=HOW.out.below hb8;clear x0 x1 x2 x3 x4 x5 x6 x7 x8 x9 x10 x11 hb8;obtain ⟨y0,y1,y2,y3,y4,y5,y6,y7,y8,y9,y10⟩:=zr st8.res;have fr:=zf st8.res;have fr0:=fr 0;have fr1:=fr 1;have fr2:=fr 2;have fr3:=fr 3;have fr4:=fr 4;have fr5:=fr 5;have fr6:=fr 6;have fr7:=fr 7;have fr8:=fr 8;have fr9:=fr 9;have fr10:=fr 10;have HO:=hide (own8.boxed11 st8.res (.int .i64 B.id) (.string B.name) (.slice a n c) (.slice fa2 fn2 fc2) (.slice ra rn rc) (.slice oa on oc) (.int .i64 B.ticks) (.int .i64 B.parse) (.int .i64 B.word) (.int .i64 B.drops) (.int .i64 V));have HB:=hide (zaa st8.below st8.hR (.int .i64 B.id) (.string B.name) (.slice a n c) (.slice fa2 fn2 fc2) (.slice ra rn rc) (.slice oa on oc) (.int .i64 B.ticks) (.int .i64 B.parse) (.int .i64 B.word) (.int .i64 B.drops) (.int .i64 V));clear st8 own8 fr;go_wp2;exact bodyPost_ret (v:=.agg #[.int .i64 B.id,.string B.name,.slice a n c,.slice fa2 fn2 fc2,.slice ra rn rc,.slice oa on oc,.int .i64 B.ticks,.int .i64 B.parse,.int .i64 B.word,.int .i64 B.drops,.int .i64 V]) (by simp [results,Tryz.results128,go_sem, *]) rfl ⟨fa2,fn2,fc2,(by rw [HV.out]),(by rw [HT.out]; exact ⟨HO.out.ports,HO.out.f,HO.out.v⟩),HB.out⟩

theorem zhW (x:BV) (id:Int) (g:Nat) (w:World) (c:w.cell? ⟨g,0,none⟩=some (.int .i64 id)) :
  Calls Tryz.prog 96 #[.agg #[.int .i64 x.B.id,.string x.B.name,.slice x.a x.n x.c,.slice x.fa x.fn x.fc,.slice x.ra x.rn x.rc,.slice x.oa x.on x.oc,.int .i64 x.B.ticks,.int .i64 x.B.parse,.int .i64 x.B.word,.int .i64 x.B.drops,.int .i64 x.B.vers],.pointer (some ⟨g,0,none⟩)] w fun e w'=>e=.returned (.bool (decide (x.B.id=id)))∧Below w.heap.size w w':=by
 generalize hw1:w.alloc (Obj.cells #[.int .i64 x.B.id,.string x.B.name,.slice x.a x.n x.c,.slice x.fa x.fn x.fc,.slice x.ra x.rn x.rc,.slice x.oa x.on x.oc,.int .i64 x.B.ticks,.int .i64 x.B.parse,.int .i64 x.B.word,.int .i64 x.B.drops,.int .i64 x.B.vers] 63)=w1;have b1:=zb hw1;have k1:=zk hw1;obtain ⟨c0,c1,c2,c3,c4,c5,c6,c7,c8,c9,c10⟩:=zr k1;have cg:=(b1.cell (zl c)).trans c;clear c;by_cases he:x.B.id=id
 ·have HE:=hide he;clear he;go_enter Tryz.func96,Tryz.ntmps96;go_wp2;go_ret;exact ⟨zI (by rw [HE.out]; simp),b1⟩
 ·have HE:=hide he;clear he;go_enter Tryz.func96,Tryz.ntmps96;go_wp2;go_ret;exact ⟨zI (by have:=HE.out; simp [this]),b1⟩

theorem zgD (a:Option Addr) (n c:Nat) (l:List BV) (id:Int) (g:Nat) (w:World) (h:GRow brF w a n c l) (cg:w.cell? ⟨g,0,none⟩=some (.int .i64 id)) :
  Calls Tryz.prog 144 #[.slice a n c,.func (.func 96) #[] #[.pointer (some ⟨g,0,none⟩)]] w fun e w'=>∃k:Int,e=.returned (.int .i64 k)∧(0≤k↔∃y∈l,y.B.id=id)∧Below w.heap.size w w':=by
 have hle:=h.le;have htop:=h.top;unfold maxLen at htop;have hsz:=h.size;go_enter Tryz.func144,Tryz.ntmps144;go_wp2
 go_loopw [8] (fun i wr=>∃k:Nat,k≤n∧i=.int .i64 k∧(∀y∈l.take k,¬y.B.id=id)∧Below w.heap.size w wr) (fun i _=>n - (intOf i).toNat)
 case atStart=>exact ⟨0,Nat.zero_le _,rfl,by intro y hy; simp at hy,Below.refl _ _⟩
 case round =>
  obtain ⟨k,hk,rfl,hno,hb⟩:=hrel;by_cases hlt:k < n
  ·obtain ⟨x,b,off,hx,rfl,ca0,ca1,ca2,ca3,ca4,ca5,ca6,ca7,ca8,ca9,ca10⟩:=br_at (h.below hb) k hlt;have HX:=hide hx;have HN:=hide hno;have HB:=hide hb;clear hno hb hx;(go_wp2_with fail);refine (zhW x id g _ ((HB.out.cell (zl cg)).trans cg)).mono ?_;rintro r w1 ⟨rfl,hb1⟩;have HB1:=hide (zc HB.out hb1);clear hb1 ca0 ca1 ca2 ca3 ca4 ca5 ca6 ca7 ca8 ca9 ca10;by_cases t1:x.B.id=id
   ·have HF:Hid (∃y∈l,y.B.id=id):=hide ⟨x,List.mem_of_getElem? HX.out,t1⟩;rw [decide_eq_true t1];clear t1;go_wp2;go_ret;exact ⟨(k:Int),rfl,⟨fun _=>HF.out,fun _=>by omega⟩,HB1.out⟩
   ·have HO:=hide (zbF (P:=fun y:BV=>¬y.B.id=id) HX.out HN.out t1);rw [decide_eq_false t1];clear t1;go_wp2
    go_roundw
    case rel=>exact ⟨k+1,by omega,by go_num,HO.out,HB1.out⟩
    case measure=>simp [intOf]; omega
  ·have hkn:k=n:=by omega
   rw [List.take_of_length_le (by omega)] at hno;have HN:=hide hno;clear hno;subst hkn;go_wp2;go_ret;exact ⟨-1,rfl,⟨fun e=>by omega,fun ⟨y,hy,e⟩=>absurd e (HN.out y hy)⟩,hb⟩

theorem zeI (a:Option Addr) (n c:Nat) (l:List BV) (id:Int) (g:Nat) (w:World) (h:GRow brF w a n c l) (cg:w.cell? ⟨g,0,none⟩=some (.int .i64 id)) :
  Calls Tryz.prog 98 #[.slice a n c,.func (.func 96) #[] #[.pointer (some ⟨g,0,none⟩)]] w fun e w'=>Says (∃y∈l,y.B.id=id) w e w':=by
 go_enter Tryz.func98,Tryz.ntmps98;go_wp2_with fail
 refine (zgD a n c l id g _ h cg).mono ?_;rintro e w1 ⟨k,rfl,hk,hb⟩;have HK:=hide hk;clear hk;go_wp2;go_ret;exact ⟨decide (0≤k),zI (by simp),by rw [← HK.out]; simp,hb⟩

theorem zeh (a:Option Addr) (n c:Nat) (l:List BV) (w:World) (h:GRow brF w a n c l) (hr:∀x∈l,x.Reads w) (hm:∀x∈l,x.fn≤16777216) (hR:∀x∈l,∀r∈x.B.v.rows,r.Rng) :
  Calls Tryz.prog 53 #[.slice a n c] w fun e w'=>Says (zaI (l.map BV.B)) w e w':=by
 have hle:=h.le;have htop:=h.top;unfold maxLen at htop;have hsz:=h.size;have hlen:(l.map BV.B).length=n:=by simp [hsz]
 have hat:∀{i:Nat} {x:BV},l[i]?=some x→(l.map BV.B)[i]?=some x.B:=fun hx=>by rw [List.getElem?_map,hx]; rfl
 generalize hbs:l.map BV.B=bs at *;cases hA:(decide (1≤(n:Int)) && decide ((n:Int)≤6))
 ·have HNO:Hid ((false=true)↔zaI bs):=hide (zaH fun hp=>by have h1:=hp.2.2.1; have h2:=hp.2.2.2; simp at hA; omega);go_enter Tryz.func53,Tryz.ntmps53;(go_wp2_with fail);refine (zD (n:Int) 1 6 _).mono ?_;rintro e w2 ⟨rfl,ew⟩;obtain rfl:=ew.symm;rw [hA];clear hA;go_wp2;go_ret;exact ⟨false,rfl,HNO.out,Below.refl _ _⟩
 have hn6:1≤n∧n≤6:=by simp at hA; omega
 go_enter Tryz.func53,Tryz.ntmps53;go_wp2_with fail
 refine (zD (n:Int) 1 6 _).mono ?_;rintro e w2 ⟨rfl,ew⟩;obtain rfl:=ew.symm;rw [hA];clear hA;go_wp2_with fail
 go_loopw [12] (fun i wr=>∃k:Nat,k≤n∧i=.int .i64 k∧(∀y∈bs.take k,zx y=true)∧(∀(i j:Nat) (x y:BR),i < j→j < k→bs[i]?=some x→bs[j]?=some y→x.id≠y.id)∧Below w.heap.size w wr) (fun i _=>n - (intOf i).toNat)
 case atStart=>exact ⟨0,Nat.zero_le _,rfl,by intro y hy; simp at hy,by intro i j x y _ hj; omega,Below.refl _ _⟩
 case round =>
  obtain ⟨k,hk,rfl,hok,hid,hb⟩:=hrel;by_cases hlt:k < n
  ·obtain ⟨x,b,off,hx,rfl,ca0,ca1,ca2,ca3,ca4,ca5,ca6,ca7,ca8,ca9,ca10⟩:=br_at (h.below hb) k hlt;have hmem:=List.mem_of_getElem? hx;have HBX:=hide (hat hx);have HOK:=hide hok;have HID:=hide hid;generalize hwa:wr.alloc (Obj.cells #[.int .i64 x.B.id,.string x.B.name,.slice x.a x.n x.c,.slice x.fa x.fn x.fc,.slice x.ra x.rn x.rc,.slice x.oa x.on x.oc,.int .i64 x.B.ticks,.int .i64 x.B.parse,.int .i64 x.B.word,.int .i64 x.B.drops,.int .i64 x.B.vers] 63)=wa;have ba:=zb hwa;have ka:=zk hwa;have b0a:=zc hb ba;obtain ⟨c0,c1,c2,c3,c4,c5,c6,c7,c8,c9,c10⟩:=zr ka;have i1:(0:Int)≤(k:Int):=by omega
   have i2:(k:Int) < (n:Int):=by omega
   have hrx:=hr x hmem;clear hok hid hx;(go_wp2_with fail);refine (za9 x.a x.n x.c x.fa x.fn x.fc x.ra x.rn x.rc x.oa x.on x.oc x.B _ (hrx.below b0a) (hm x hmem) (hR x hmem)).mono ?_;rintro e w3 ⟨rfl,hb3⟩;have k3:=za ka hb3;have b03:=zc b0a hb3;generalize hRR:wr.heap.size=G at *;clear c0 c1 c2 c3 c4 c5 c6 c7 c8 c9 c10 ca0 ca1 ca2 ca3 ca4 ca5 ca6 ca7 ca8 ca9 ca10 ka ba hb3 b0a hwa;cases hB:zx x.B
   ·have HNO:Hid ((false=true)↔zaI bs):=hide (zaH fun hp=>by have:=hp.1 x.B (List.mem_of_getElem? HBX.out); rw [hB] at this; cases this);go_wp2;go_ret;exact ⟨false,rfl,HNO.out,b03⟩
   ·have HOK':=hide (zbF HBX.out HOK.out hB);have hkc:(k:Int)≤(c:Int):=by omega
    obtain ⟨c0,c1,c2,c3,c4,c5,c6,c7,c8,c9,c10⟩:=zr k3;(go_wp2_with fail);refine (zeI (some ⟨b,off,none⟩) k c (l.take k) x.B.id G _ ((GRow.take h (by omega)).below b03) c0).mono ?_;rintro e w4 ⟨q,rfl,hq,hb4⟩;have HB4:=hide (zc b03 hb4);have HQ:=hide hq;clear hq hb4 c0 c1 c2 c3 c4 c5 c6 c7 c8 c9 c10 k3;cases q
    ·have HID':Hid (∀(i j:Nat) (u v:BR),i < j→j < k+1→bs[i]?=some u→bs[j]?=some v→u.id≠v.id):=hide (fun i j u v hij hj hu hv=>by
      by_cases hjm:j=k
      ·subst hjm;rw [HBX.out] at hv;cases hv;intro he
       have:∃y∈l.take j,y.B.id=x.B.id:=by
        rw [← hbs,List.getElem?_map] at hu;cases hy:l[i]? with
        | none=>rw [hy] at hu; cases hu
        | some y =>
         rw [hy] at hu;cases hu;exact ⟨y,List.mem_of_getElem? (by rw [List.getElem?_take_of_lt hij]; exact hy),he⟩
       have:=HQ.out.2 this
       cases this
      ·exact HID.out i j u v hij (by omega) hu hv)
     go_wp2
     go_roundw
     case rel=>exact ⟨k+1,by omega,by go_num,HOK'.out,HID'.out,HB4.out⟩
     case measure=>simp [intOf]; omega
    ·have HNO:Hid ((false=true)↔zaI bs):=hide (zaH fun hp=>by
      obtain ⟨y,hy,he⟩:=HQ.out.1 rfl;obtain ⟨i,hi⟩:=List.getElem?_of_mem hy;have hik:i < k:=by have:=(List.getElem?_eq_some_iff.1 hi).1; rw [List.length_take] at this; omega
      rw [List.getElem?_take_of_lt hik] at hi;exact hp.2.1 i k _ _ hik (hat hi) HBX.out he)
     go_wp2;go_ret;exact ⟨false,rfl,HNO.out,HB4.out⟩
  ·have hkn:k=n:=by omega
   rw [List.take_of_length_le (by omega)] at hok;have HP:Hid (zaI bs):=hide ⟨hok,fun i j x y hij hx hy=>hid i j x y hij (by have:=(List.getElem?_eq_some_iff.1 hy).1; omega) hx hy,by omega,by omega⟩;clear hok hid;subst hkn;go_wp2;go_ret;exact ⟨true,rfl,zdJ HP.out,hb⟩

theorem zek (N:NV) (w:World) (h:zax w N) :
  Calls Tryz.prog 55 #[.agg #[.slice N.ba N.bn N.bc,.slice N.la N.ln N.lc,.slice N.sa N.sn N.sc]] w fun e w'=>Says (Quiet N.brs N.ls) w e w':=by
 obtain ⟨ba,bn,bc,bs,la,ln,lc,ls,sa,sn,sc,ss⟩:=N;have hG:=h.b;have hle:=Nat.le_trans hG.le hG.top;unfold maxLen at hle;have hsz:=hG.size;have hat:∀{i:Nat} {x:BV},bs[i]?=some x→(bs.map BV.B)[i]?=some x.B:=fun hx=>by rw [List.getElem?_map,hx]; rfl
 have hlen:(bs.map BV.B).length=bn:=by simp; exact hsz
 have hitem:∀x∈bs,x.Reads w:=h.item;have HH:=hide h;clear h;generalize hbR:NV.brs ⟨ba,bn,bc,bs,la,ln,lc,ls,sa,sn,sc,ss⟩=bR;have hbR':bs.map BV.B=bR:=hbR;rw [hbR'] at hat hlen;clear hbR hbR';dsimp only at hG hle hsz ⊢;generalize hw1:w.alloc (Obj.cells #[.slice ba bn bc,.slice la ln lc,.slice sa sn sc] 31)=w1;have b01:=zb hw1;have k1:=zk hw1;obtain ⟨x0,x1,x2⟩:=zd k1;go_enter Tryz.func55,Tryz.ntmps55;go_wp2_with fail
 clear hw1 x0 x1 x2
 go_loopw [13] (fun i wr=>∃k:Nat,k≤bn∧i=.int .i64 k∧(∀(i:Nat) (B:BR),i < k→bR[i]?=some B→zd5 ls i B)∧wr.heap[w.heap.size]?=some (.cells #[.slice ba bn bc,.slice la ln lc,.slice sa sn sc] 31)∧Below w.heap.size w wr) (fun i _=>bn - (intOf i).toNat)
 case atStart=>exact ⟨0,Nat.zero_le _,rfl,by intro i B hi; omega,k1,b01⟩
 case round =>
  obtain ⟨k,hk,rfl,hqt,hbox,hb⟩:=hrel;clear k1 b01;by_cases hlt:k < bn
  ·obtain ⟨x,bb,off,hx,rfl,ca0,ca1,ca2,ca3,ca4,ca5,ca6,ca7,ca8,ca9,ca10⟩:=br_at (hG.below hb) k hlt;have hrow:=hitem x (List.mem_of_getElem? hx);have hpl:=Nat.le_trans hrow.ports.le hrow.ports.top;unfold maxLen at hpl;have hps:=hrow.ports.size;have i1:(0:Int)≤(k:Int):=by omega
   have i2:(k:Int) < (bn:Int):=by omega
   have HBX:=hide (hat hx);have HQT:=hide hqt;generalize hwa:wr.alloc (Obj.cells #[.int .i64 x.B.id,.string x.B.name,.slice x.a x.n x.c,.slice x.fa x.fn x.fc,.slice x.ra x.rn x.rc,.slice x.oa x.on x.oc,.int .i64 x.B.ticks,.int .i64 x.B.parse,.int .i64 x.B.word,.int .i64 x.B.drops,.int .i64 x.B.vers] 63)=wa;have ba9:=zb hwa;have ka:=zk hwa;have kNe:=za hbox ba9;have b0a:=zc hb ba9;obtain ⟨c0,c1,c2,c3,c4,c5,c6,c7,c8,c9,c10⟩:=zr ka;clear hx hqt hbox;(go_wp2_with fail);clear c0 c1 c2 c3 c4 c5 c6 c7 c8 c9 c10 ca0 ca1 ca2 ca3 ca4 ca5 ca6 ca7 ca8 ca9 ca10 ka ba9 hwa hb
   go_loopw [21] (fun i wr=>∃p:Nat,p≤x.n∧i=.int .i64 p∧(∀(i:Nat) (y:PT),i < p→x.B.ports[i]?=some y→y.has=true→usedL ls (k:Int) (i:Int)≠0)∧wr.heap[w.heap.size]?=some (.cells #[.slice (some ⟨bb,off,none⟩) bn bc,.slice la ln lc,.slice sa sn sc] 31)∧Below w.heap.size w wr) (fun i _=>x.n - (intOf i).toNat)
   case atStart=>exact ⟨0,Nat.zero_le _,rfl,by intro i y hi; omega,kNe,b0a⟩
   case round =>
    obtain ⟨p,hp,rfl,hq,hbox5,hb5⟩:=hrel;clear kNe b0a;by_cases hpn:p < x.n
    ·obtain ⟨y,pb,po,hy,hpa,d0,d1,d2,d3,d4,d5,d6,d7⟩:=pt_at (hrow.ports.below hb5) p hpn;obtain ⟨xa,xn,xc,xfa,xfn,xfc,xra,xrn,xrc,xoa,xon,xoc,xB⟩:=x;dsimp only at hpa hpn hp hrow hpl hps HBX hq hy ⊢;subst hpa;have i3:(0:Int)≤(p:Int):=by omega
     have i4:(p:Int) < (xn:Int):=by omega
     have HQ:=hide hq;have HY:=hide hy;generalize hwb:wr.alloc (Obj.cells #[.bool y.up,.int .i64 y.k,.bool y.has,.int .i64 y.v.r,.int .i64 y.v.c,.int .i64 y.v.h,.int .i64 y.v.b,.int .i64 y.v.p] 67)=wb;have bb9:=zb hwb;have kp:=zk hwb;have kNe:=za hbox5 bb9;have b0b:=zc hb5 bb9;obtain ⟨x0,x1,x2⟩:=zd kNe;clear hq hy hbox5;(go_wp2_with fail);refine (zeJ ⟨some ⟨bb,off,none⟩,bn,bc,bs,la,ln,lc,ls,sa,sn,sc,ss⟩ (k:Int) (p:Int) _ (HH.out.below b0b)).mono ?_;rintro e w6 ⟨rfl,hb6⟩;have kNe:=za kNe hb6;have kp:=za kp hb6;have b06:=zc b0b hb6;generalize hRR:wr.heap.size=G at *;clear x0 x1 x2 d0 d1 d2 d3 d4 d5 d6 d7 hwb bb9 b0b hb6 hb5;obtain ⟨o0,o1,o2,o3,o4,o5,o6,o7⟩:=zg8 kp;dsimp only;have hBU:=zgs ls (k:Int) (p:Int);have HKN:=hide kNe;cases hh:y.has
     ·rw [hh] at o2;have HNX:Hid (∀(i:Nat) (z:PT),i < p+1→xB.ports[i]?=some z→z.has=true→usedL ls (k:Int) (i:Int)≠0):=hide (fun i z hi hz hzh=>by
       by_cases hip:i=p
       ·subst hip; rw [HY.out] at hz; cases hz; rw [hh] at hzh; cases hzh
       ·exact HQ.out i z (by omega) hz hzh)
      obtain ⟨t1,t2,t3,hT⟩:∃(x y:Int) (z:Bool),zfi (zbz ls (k:Int) (p:Int))=.tuple #[.int .i64 x,.int .i64 y,.bool z]:=by
       cases zbz ls (k:Int) (p:Int) with
       | none=>exact ⟨_,_,_,rfl⟩
       | some q=>exact ⟨_,_,_,rfl⟩
      rw [hT];clear hT hBU kNe;go_wp2
      go_roundw
      case rel=>exact ⟨p+1,by omega,by go_num,HNX.out,HKN.out,b06⟩
      case measure=>simp [intOf]; omega
     ·rw [hh] at o2;cases hBS:zbz ls (k:Int) (p:Int) with
      | none =>
       have hu:=hBU.1 hBS;have HNO:Hid ((false=true)↔Quiet bR ls):=hide (zaH fun hp=>hp k _ HBX.out p y HY.out hh hu);clear hBU hu kNe hBS;unfold zfi;dsimp only;go_wp2;go_ret;exact ⟨false,rfl,HNO.out,b06⟩
      | some q =>
       have hu:¬usedL ls (k:Int) (p:Int)=0:=fun e=>by rw [hBU.2 e] at hBS; cases hBS
       have HNX:Hid (∀(i:Nat) (z:PT),i < p+1→xB.ports[i]?=some z→z.has=true→usedL ls (k:Int) (i:Int)≠0):=hide (fun i z hi hz hzh=>by
        by_cases hip:i=p
        ·subst hip; exact hu
        ·exact HQ.out i z (by omega) hz hzh)
       clear hBU hu kNe hBS;obtain ⟨qa,qb⟩:=q;unfold zfi;dsimp only;go_wp2
       go_roundw
       case rel=>exact ⟨p+1,by omega,by go_num,HNX.out,HKN.out,b06⟩
       case measure=>simp [intOf]; omega
    ·have hpx:p=x.n:=by omega
     have HQT':Hid (∀(i:Nat) (B:BR),i < k+1→bR[i]?=some B→zd5 ls i B):=hide (fun i B hi hB=>by
      by_cases him:i=k
      ·subst him;rw [HBX.out] at hB;cases hB;intro q y hy hyh;exact hq q y (by have:=(List.getElem?_eq_some_iff.1 hy).1; omega) hy hyh
      ·exact HQT.out i B (by omega) hB)
     have HBOX5:=hide hbox5;have HB5:=hide hb5;clear hq hbox5 hb5;go_wp2
     go_roundw
     case rel=>exact ⟨k+1,by omega,by go_num,HQT'.out,HBOX5.out,HB5.out⟩
     case measure=>simp [intOf]; omega
  ·have hkn:k=bn:=by omega
   have HP:Hid (Quiet bR ls):=hide (fun i B hB=>hqt i B (by have:=(List.getElem?_eq_some_iff.1 hB).1; omega) hB);clear hqt;subst hkn;go_wp2;go_ret;exact ⟨true,rfl,zdJ HP.out,hb⟩

theorem zfV (N:NV) (w:World) (h:zax w N) :
  Calls Tryz.prog 56 #[.agg #[.slice N.ba N.bn N.bc,.slice N.la N.ln N.lc,.slice N.sa N.sn N.sc]] w fun e w'=>Says (zcr N.ls N.ss) w e w':=by
 obtain ⟨ba,bn,bc,bs,la,ln,lc,ls,sa,sn,sc,ss⟩:=N;have hS:=h.s;have hls:=h.l.size;have hll:=Nat.le_trans h.l.le h.l.top;have hle:=Nat.le_trans hS.le hS.top;unfold maxLen at hle hll;have hsz:=hS.size;clear h;dsimp only at hS hle hll hls hsz ⊢;generalize hw1:w.alloc (Obj.cells #[.slice ba bn bc,.slice la ln lc,.slice sa sn sc] 31)=w1;have b01:=zb hw1;have k1:=zk hw1;obtain ⟨x0,x1,x2⟩:=zd k1;by_cases s40:(sn:Int) > 40
 ·have HNO:Hid ((false=true)↔zcr ls ss):=hide (zaH fun hp=>by have:=hp.1; omega);go_enter Tryz.func56,Tryz.ntmps56;go_wp2;go_ret;exact ⟨false,rfl,HNO.out,b01⟩
 go_enter Tryz.func56,Tryz.ntmps56;go_wp2_with fail
 clear hw1 x0 x1 x2
 go_loopw [12] (fun i wr=>∃k:Nat,k≤sn∧i=.int .i64 k∧(∀y∈ss.take k,SayOk ls y)∧wr.heap[w.heap.size]?=some (.cells #[.slice ba bn bc,.slice la ln lc,.slice sa sn sc] 31)∧Below w.heap.size w wr) (fun i _=>sn - (intOf i).toNat)
 case atStart=>exact ⟨0,Nat.zero_le _,rfl,by intro y hy; simp at hy,k1,b01⟩
 case round =>
  obtain ⟨k,hk,rfl,hss,hbox,hb⟩:=hrel;clear k1 b01;by_cases hlt:k < sn
  ·obtain ⟨y,sb,so,hy,rfl,d0,d1,d2,d3,d4,d5,d6⟩:=zfb (hS.below hb) k hlt;have i1:(0:Int)≤(k:Int):=by omega
   have i2:(k:Int) < (sn:Int):=by omega
   have hmem:=List.mem_of_getElem? hy;have HY:=hide hy;have HSS:=hide hss;generalize hwa:wr.alloc (Obj.cells #[.int .i64 y.l,.bool y.back,.int .i64 y.v.r,.int .i64 y.v.c,.int .i64 y.v.h,.int .i64 y.v.b,.int .i64 y.v.p] 90)=wa;have ba9:=zb hwa;have ka:=zk hwa;have kNe:=za hbox ba9;have b0a:=zc hb ba9;obtain ⟨e0,e1,e2,e3,e4,e5,e6⟩:=zY ka;obtain ⟨x0,x1,x2⟩:=zd kNe;clear hy hss hbox hb;cases h1:(decide (0≤y.l) && decide (y.l≤(ln:Int) - 1))
   ·have HNO:Hid ((false=true)↔zcr ls ss):=hide (zaH fun hp=>by
     have:=(hp.2 y hmem).1
     rw [hls,h1] at this;cases this)
    (go_wp2_with fail);refine (zD y.l 0 ((ln:Int) - 1) _).mono ?_;rintro e w2 ⟨rfl,ew⟩;obtain rfl:=ew.symm;rw [h1];clear h1;go_wp2;go_ret;exact ⟨false,rfl,HNO.out,b0a⟩
   ·(go_wp2_with fail);refine (zD y.l 0 ((ln:Int) - 1) _).mono ?_;rintro e w2 ⟨rfl,ew⟩;obtain rfl:=ew.symm;rw [h1];have H1:=hide h1;clear h1;(go_wp2_with fail);refine (zaE y.v.r y.v.c y.v.h y.v.b y.v.p _).mono ?_;rintro e w3 ⟨rfl,hb3⟩;have HK:=hide (za kNe hb3);have HB:=hide (zc b0a hb3);clear hb3 kNe b0a ba9 ka hwa e0 e1 e2 e3 e4 e5 e6 x0 x1 x2 d0 d1 d2 d3 d4 d5 d6;cases h2:okVc y.v.r y.v.c y.v.h y.v.b y.v.p
    ·have HNO:Hid ((false=true)↔zcr ls ss):=hide (zaH fun hp=>by
      have:=(hp.2 y hmem).2
      unfold okVd at this;rw [h2] at this;cases this)
     go_wp2;go_ret;exact ⟨false,rfl,HNO.out,HB.out⟩
    ·have HYES:=hide (zbF HY.out HSS.out (P:=SayOk ls) ⟨by rw [hls]; exact H1.out,h2⟩);go_wp2
     go_roundw
     case rel=>exact ⟨k+1,by omega,by go_num,HYES.out,HK.out,HB.out⟩
     case measure=>simp [intOf]; omega
  ·have hkn:k=sn:=by omega
   rw [List.take_of_length_le (by omega)] at hss;have HP:Hid (zcr ls ss):=hide ⟨by omega,hss⟩;clear hss;subst hkn;go_wp2;go_ret;exact ⟨true,rfl,zdJ HP.out,hb⟩

theorem zbH (N:NV) (w:World) (h:zax w N) (hm:∀x∈N.bs,x.fn≤16777216) (hR:∀x∈N.bs,∀r∈x.B.v.rows,r.Rng) :
  Calls Tryz.prog 17 #[.agg #[.slice N.ba N.bn N.bc,.slice N.la N.ln N.lc,.slice N.sa N.sn N.sc]] w fun e w'=>Says (NetOk N.brs N.ls N.ss) w e w':=by
 generalize hw1:w.alloc (Obj.cells #[.slice N.ba N.bn N.bc,.slice N.la N.ln N.lc,.slice N.sa N.sn N.sc] 31)=w1;have b01:=zb hw1;have k1:=zk hw1;obtain ⟨x0,x1,x2⟩:=zd k1;have kNe:=k1;have b:=b01;clear k1 b01;go_enter Tryz.func17,Tryz.ntmps17;go_wp2_with fail
 refine (zeh N.ba N.bn N.bc N.bs _ (h.b.below b) (fun x hx=>(h.item x hx).below b) hm hR).mono ?_;rintro e v0 ⟨q0,rfl,hq0,hb0⟩;have kNe:=za kNe hb0;have b:=zc b hb0;have HQ0:=hide hq0;clear hq0 hb0 x0 x1 x2;obtain ⟨x0,x1,x2⟩:=zd kNe;cases q0
 ·have HNO:Hid ((false=true)↔NetOk N.brs N.ls N.ss):=hide (zaH fun hp=>by have:=HQ0.out.2 hp.1; cases this);go_wp2;go_ret;exact ⟨false,rfl,HNO.out,b⟩
 ·have HT0:Hid (zaI N.brs):=hide (HQ0.out.1 rfl);clear HQ0;(go_wp2_with fail);refine (zfn N _ (h.below b)).mono ?_;rintro e v1 ⟨q1,rfl,hq1,hb1⟩;have kNe:=za kNe hb1;have b:=zc b hb1;have HQ1:=hide hq1;clear hq1 hb1 x0 x1 x2;obtain ⟨x0,x1,x2⟩:=zd kNe;cases q1
  ·have HNO:Hid ((false=true)↔NetOk N.brs N.ls N.ss):=hide (zaH fun hp=>by have:=HQ1.out.2 hp.2.1; cases this);go_wp2;go_ret;exact ⟨false,rfl,HNO.out,b⟩
  ·have HT1:Hid (zaQ N.brs N.ls):=hide (HQ1.out.1 rfl);clear HQ1;(go_wp2_with fail);refine (zek N _ (h.below b)).mono ?_;rintro e v2 ⟨q2,rfl,hq2,hb2⟩;have kNe:=za kNe hb2;have b:=zc b hb2;have HQ2:=hide hq2;clear hq2 hb2 x0 x1 x2;obtain ⟨x0,x1,x2⟩:=zd kNe;cases q2
   ·have HNO:Hid ((false=true)↔NetOk N.brs N.ls N.ss):=hide (zaH fun hp=>by have:=HQ2.out.2 hp.2.2.1; cases this);go_wp2;go_ret;exact ⟨false,rfl,HNO.out,b⟩
   ·have HT2:Hid (Quiet N.brs N.ls):=hide (HQ2.out.1 rfl);clear HQ2;(go_wp2_with fail);refine (zfV N _ (h.below b)).mono ?_;rintro e v3 ⟨q3,rfl,hq3,hb3⟩;have kNe:=za kNe hb3;have b:=zc b hb3;have HQ3:=hide hq3;clear hq3 hb3 x0 x1 x2;obtain ⟨x0,x1,x2⟩:=zd kNe;cases q3
    ·have HNO:Hid ((false=true)↔NetOk N.brs N.ls N.ss):=hide (zaH fun hp=>by have:=HQ3.out.2 hp.2.2.2; cases this);go_wp2;go_ret;exact ⟨false,rfl,HNO.out,b⟩
    ·have HP:Hid (NetOk N.brs N.ls N.ss):=hide ⟨HT0.out,HT1.out,HT2.out,HQ3.out.1 rfl⟩;go_wp2;go_ret;exact ⟨true,rfl,zdJ HP.out,b⟩

end Go.Proofs.YtkoekkjfcaiagaaGreat
