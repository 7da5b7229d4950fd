/-
  Packed: MibName MibCols MibListS MibIn MibSpecG.
-/
import Derived.Test.YtcpdkcdfnpcemabGreatPGBrOkS
import Derived.Test.YtcpdkcdfnpcemabGreatPGK10
namespace Go.Proofs.YtcpdkcdfnpcemabGreat
set_option maxRecDepth 100000
set_option maxHeartbeats 16000000
open Go.RowKit

theorem zfX {l:List Int} (h:I64s l):I64s (nmI l):=by
 intro z hz;unfold nmI at hz;simp only [List.mem_cons] at hz;rcases hz with rfl | rfl | rfl | hz
 ·omega
 ·omega
 ·omega
 ·exact h z hz

theorem zbQ (ia:Option Addr) (il ic:Nat) (name:List Int) (w:World) (h:IRow w ia il ic name) (hn:il≤1048576) :
  Calls Tryz.prog 76 #[.slice ia il ic] w fun e w'=>∃na nc,e=.returned (.slice na (il+3) nc)∧w'.ownsRow w.heap.size 3 1 (.slice na (il+3) nc) (il+3) (cI (nmI name))∧Below w.heap.size w w':=by
 generalize hw1:w.alloc (Obj.cells #[.int .i64 1,.int .i64 3,.int .i64 1] 3)=w1;have b1:=zb hw1;have k1:=zk hw1;have own:=zab intF (base:=w.heap.size) (l:=[1,3,1]) k1 rfl (Nat.le_refl _) (by simp);have hg:=(h.below b1).flat;have HB1:=hide b1;go_enter Tryz.func76,Tryz.ntmps76;go_wp2_with (at_builtin; refine zy (F:=intF) _ rfl _ _ 25 3 rfl w.heap.size Tryz.underlying25 Tryz.infoI64 rfl (by decide) _ 3 [1,3,1] rfl own ia il ic name rfl hg (by omega) HB1.out.size ?_)
 intro na nc w2 how _ hgr hb;have HB:=hide (HB1.out.trans hb);rw [Nat.add_comm 3 il] at how ⊢;have HO:Hid (w2.ownsRow w.heap.size 3 1 (.slice na (il+3) nc) (il+3) (cI (nmI name))):=hide (by rw [← z7]; exact how);clear how hgr hb own k1 hg b1;go_wp2;go_ret;exact ⟨na,nc,rfl,HO.out,HB.out⟩

theorem zai (ba:Option Addr) (bc:Nat) (l:List BI) (ia:Option Addr) (il ic:Nat) (name:List Int) (v:Int) (base:Nat) (w:World) (hl:BOwns w base ba l.length bc l) (h:IRow w ia il ic name) (hn:il≤1048576) (hm:l.length≤1000) (hbase:base≤w.heap.size) :
  Calls Tryz.prog 77 #[.slice ba l.length bc,.slice ia il ic,.int .i64 v] w fun e w'=>∃ba' bc' y,e=.returned (.slice ba' (l.length+1) bc')∧BI.d y=numD name v∧BOwns w' base ba' (l++[y]).length bc' (l++[y])∧Below base w w':=by
 obtain ⟨i0,hi,hz0,hz1,hz2⟩:=info_parts Tryz.infoBind';have HI64:=hide (zfX h.byte);have HL0:=hide hl;go_enter Tryz.func77,Tryz.ntmps77;go_wp2_with fail
 refine (zbQ ia il ic name _ h hn).mono ?_;rintro e w1 ⟨na,nc,rfl,oN,b1⟩;go_wp2_with fail
 refine (zfj v _).mono ?_;rintro e w2 ⟨rfl,b2⟩;have b02:=ze b1 b2;have oN:=zY oN b2;have hl:=hl.below b02;have q3:=zg w2 (.cells #[.slice na (il+3) nc,.int .i64 2,.int .i64 v,.string ⟨#[]⟩,.slice none 0 0] 51);have hnew:=ze5 w2 (⟨na,il+3,nc,nmI name,2,v,⟨#[]⟩,none,0,0,[]⟩:BI);have hone:=zeQ (⟨na,il+3,nc,nmI name,2,v,⟨#[]⟩,none,0,0,[]⟩:BI);have HB3:=hide (ze b02 q3);have HY:Hid (BOwn (w2.alloc (.cells #[.slice na (il+3) nc,.int .i64 2,.int .i64 v,.string ⟨#[]⟩,.slice none 0 0] 51)) w.heap.size (⟨na,il+3,nc,nmI name,2,v,⟨#[]⟩,none,0,0,[]⟩:BI)):=hide ⟨zY oN q3,World.ownsRow_nil _ _ _ _,HI64.out,(by intro z hz; cases hz),by show 0≤maxLen; omega⟩;have HL3:=hide (hl.below q3);have HND:Hid (((⟨na,il+3,nc,nmI name,2,v,⟨#[]⟩,none,0,0,[]⟩:BI):BI).blks.Nodup):=hide (by
  show (blkL na++blkL none).Nodup
  cases na <;> simp [blkL])
 have HAP:Hid (∀z∈l,∀b∈z.blks,b∉((⟨na,il+3,nc,nmI name,2,v,⟨#[]⟩,none,0,0,[]⟩:BI):BI).blks):=hide (fun z hz b hb hc=>by
  have h1:=(HY.out.blk b hc).1;have h2:=((HL0.out).item z hz).blk b hb;omega)
 have hrow:=HL3.out.row;have hsz:base≤(w2.alloc (.cells #[.slice na (il+3) nc,.int .i64 2,.int .i64 v,.string ⟨#[]⟩,.slice none 0 0] 51)).heap.size:=Nat.le_trans hbase HB3.out.size;clear b1 b2 b02 oN hl q3 h;go_wp2_with (at_builtin; refine wpList_append_own _ rfl _ _ 67 rfl base 51 i0 (.agg #[.slice none 0 0,.int .i64 0,.int .i64 0,.string ⟨#[]⟩,.slice none 0 0]) 5 80 Tryz.underlying67 hi hz0 hz1 hz2 rfl (by decide) _ l.length (cBs l) rfl hrow ⟨w2.heap.size,0,none⟩ 1 1 (⟨na,il+3,nc,nmI name,2,v,⟨#[]⟩,none,0,0,[]⟩:BI).cs rfl rfl hnew hone ?c1 ?c2 ?c3 ?_)
 case c1=>unfold maxLen; omega
 case c2=>omega
 case c3=>exact hsz
 intro v' w5 how hgr _;obtain ⟨lo',cap',rfl⟩:=zfq how;have hpush:=HL3.out.push (HY.out.lt hbase) HND.out HAP.out hgr how;have HB5:=hide ((HB3.out.mono hbase).trans (zgs HL3.out hgr hsz));have HP5:=hide hpush;clear how hgr hpush hrow hnew hone;go_wp2;go_ret;exact ⟨lo',cap',(⟨na,il+3,nc,nmI name,2,v,⟨#[]⟩,none,0,0,[]⟩:BI),rfl,rfl,by simpa using HP5.out,HB5.out⟩

theorem zdf (a:Option Addr) (n c:Nat) (fa:Option Addr) (fn fc:Nat) (ra:Option Addr) (rn rc:Nat) (oa:Option Addr) (on oc:Nat) (B:BR) (cc:Int) (p:Nat) (x:PT) (w:World) (h:BrRow w a n c fa fn fc ra rn rc oa on oc B) (hx:B.ports[p]? = some x) (ho:p < on) :
  Calls Tryz.prog 78 #[.agg #[.int .i64 B.id,.string B.name,.slice a n c,.slice fa fn fc,.slice ra rn rc,.slice oa on oc,.int .i64 B.ticks,.int .i64 B.parse,.int .i64 B.word,.int .i64 B.drops,.int .i64 B.vers],.int .i64 cc,.int .i64 (p:Int)] w fun e w'=>e=.returned (.int .i64 (portW B cc p x))∧Below w.heap.size w w':=by
 generalize hw1:w.alloc (Obj.cells #[.int .i64 B.id,.string B.name,.slice a n c,.slice fa fn fc,.slice ra rn rc,.slice oa on oc,.int .i64 B.ticks,.int .i64 B.parse,.int .i64 B.word,.int .i64 B.drops,.int .i64 B.vers] 40)=w1;have b1:=zb hw1;have k1:=zk hw1;obtain ⟨x0,x1,x2,x3,x4,x5,x6,x7,x8,x9,x10⟩:=zh k1;have hpn:p < n:=by have h1:=(List.getElem?_eq_some_iff.1 hx).1; have h2:=h.ports.size; omega
 obtain ⟨x',b,off,hx',rfl,p0,p1,-⟩:=pt_at (h.ports.below b1) p hpn;rw [hx] at hx';cases hx';obtain ⟨v,b2,off2,hv,rfl,o0⟩:=zd8 (h.v.own.below b1) p ho;have hle:=h.ports.le;have htop:=h.ports.top;have hle2:=h.v.own.le;have htop2:=h.v.own.top;unfold maxLen at htop htop2;have HROW:=hide (h.ports.below b1);have HB:=hide b1;have HV:=hide hv;have i1:(0:Int)≤(p:Int):=by omega
 have i2:(p:Int) < (n:Int):=by omega
 have i3:(p:Int) < (on:Int):=by omega
 clear hx h hv b1 k1;by_cases e1:cc=1
 ·subst e1;have HW:Hid (portW B 1 p x=if x.up=true then 1 else 0):=hide (by unfold portW; rw [if_pos rfl]);rw [HW.out];clear o0 HW;cases hu:x.up
  ·rw [hu] at p0;go_enter Tryz.func78,Tryz.ntmps78;go_wp2;go_ret;exact ⟨rfl,HB.out⟩
  ·rw [hu] at p0;go_enter Tryz.func78,Tryz.ntmps78;go_wp2;go_ret;exact ⟨rfl,HB.out⟩
 have n1:(cc == 1)=false:=by simp [e1]
 by_cases e2:cc=2
 ·subst e2;have HW:Hid (portW B 2 p x=x.k):=hide (by unfold portW; rw [if_neg (by decide),if_pos rfl]);rw [HW.out];clear o0 HW;go_enter Tryz.func78,Tryz.ntmps78;go_wp2;go_ret;exact ⟨rfl,HB.out⟩
 have n2:(cc == 2)=false:=by simp [e2]
 by_cases e3:cc=3
 ·subst e3;have HW:Hid (portW B 3 p x=z9 B.id B.ports (p:Int)):=hide (by unfold portW; rw [if_neg (by decide),if_neg (by decide),if_pos rfl]);rw [HW.out];clear o0 p0 p1 HW;go_enter Tryz.func78,Tryz.ntmps78;(go_wp2_with fail);refine (zdP B.id _ n c B.ports (p:Int) _ HROW.out).mono ?_;rintro e w2 ⟨rfl,hb2⟩;have HB2:=hide (ze HB.out hb2);clear hb2 x0 x1 x2 x3 x4 x5 x6 x7 x8 x9 x10;go_wp2;go_ret;exact ⟨rfl,HB2.out⟩
 have n3:(cc == 3)=false:=by simp [e3]
 have HW:Hid (portW B cc p x=v):=hide (by unfold portW; rw [if_neg e1,if_neg e2,if_neg e3,HV.out]; rfl);rw [HW.out];clear p0 p1 HW;go_enter Tryz.func78,Tryz.ntmps78;go_wp2;go_ret;exact ⟨rfl,HB.out⟩

theorem zdQ (r:VR) (cc:Int) (w:World) :
  Calls Tryz.prog 79 #[.agg #[.int .i64 r.i,.int .i64 r.m,.int .i64 r.b],.int .i64 cc] w fun e w'=>e=.returned (.int .i64 (rowW r cc))∧Below w.heap.size w w':=by
 have b1:=zg w (.cells #[.int .i64 r.i,.int .i64 r.m,.int .i64 r.b] 113);by_cases e1:cc=1
 ·subst e1;rw [show rowW r 1=1 from rfl];go_enter Tryz.func79,Tryz.ntmps79;go_wp2;go_ret;exact ⟨rfl,b1⟩
 have n1:(cc == 1)=false:=by simp [e1]
 by_cases e2:cc=2
 ·subst e2;rw [show rowW r 2=r.m from rfl];go_enter Tryz.func79,Tryz.ntmps79;go_wp2;go_ret;exact ⟨rfl,b1⟩
 have n2:(cc == 2)=false:=by simp [e2]
 rw [show rowW r cc=r.b by unfold rowW; rw [if_neg e1,if_neg e2]];go_enter Tryz.func79,Tryz.ntmps79;go_wp2;go_ret;exact ⟨rfl,b1⟩

section
open Go.RowKit

structure MbSt (w wr:World) (cs:Array Value) (ao:Option Addr) (cap:Nat) (l:List BI):Prop where
 box:wr.heap[w.heap.size]? = some (.cells cs 40)
 own:BOwns wr (w.heap.size+1) ao l.length cap l
 below:Below w.heap.size w wr

section
variable {w wr w':World} {cs:Array Value} {ao ao':Option Addr} {cap cap':Nat} {l l':List BI}
theorem MbSt.base (h:MbSt w wr cs ao cap l):w.heap.size+1≤wr.heap.size:=Nat.succ_le_of_lt (Array.getElem?_eq_some_iff.1 h.box).1
theorem MbSt.later (h:MbSt w wr cs ao cap l) (hb:Below wr.heap.size wr w'):MbSt w w' cs ao cap l:=⟨zd h.box hb,h.own.below hb,ze h.below hb⟩
theorem MbSt.next (h:MbSt w wr cs ao cap l) (hb:Below (w.heap.size+1) wr w') (ho:BOwns w' (w.heap.size+1) ao' l'.length cap' l'):MbSt w w' cs ao' cap' l' :=
 ⟨(hb.block _ (Nat.lt_succ_self _)).trans h.box,ho,h.below.trans (hb.mono (Nat.le_succ _))⟩
end

theorem ze6 {w:World} {g base:Nat} {y:BI} (h:w.heap[g]? = some (.cells #[.slice y.oa y.on y.oc,.int .i64 y.K,.int .i64 y.N,.string y.S,.slice y.za y.zn y.zc] 51)) (hb:base≤g) (hy:BOwn w base y) (hnd:y.blks.Nodup):BOwns w base (some ⟨g,0,none⟩) 1 1 [y] where
 row:=by
  refine ⟨by rw [zaI]; rfl,.inr ⟨g,1,_,rfl,hb,h,Nat.le_refl _,by unfold maxLen; omega, ?_, ?_⟩⟩
  ·rfl
  ·rfl
 item:=fun x hx=>by
  rw [List.mem_singleton] at hx;subst hx;exact hy
 apart:=by simpa using hnd

theorem zeO {w0 w:World} {g:Nat} (h:w.heap[g]? = some (.cells #[] 51)) (hb:w0.heap.size≤g):BOwns w w0.heap.size (some ⟨g,0,none⟩) 0 0 [] :=
 ⟨zcY fentF w0 w 51 g h hb,(by intro x hx; cases hx),List.nodup_nil⟩

theorem zan {g:Int→List BD} {m:Nat} (h:∀c,(g c).length≤m):∀k,(zI g k).length≤k*m
 | 0=>by simp [zI]
 | k+1=>by
  have:=zan h k
  have:=h ((k:Int)+1)
  rw [zI,List.length_append,Nat.add_mul];omega

structure MbOk (B:BR):Prop where
 p:B.ports.length≤6
 r:B.v.rows.length≤6
 f:B.f.length≤12
 ri:∀r∈B.v.rows,1≤r.i∧r.i≤99
 fi:∀e∈B.f,(1≤e.t∧e.t≤99)∧(1≤e.m∧e.m≤9999)∧(0≤e.p∧e.p≤7)
 o:B.v.own.length=B.ports.length

theorem mb_ok {B:BR} (h:zx B=true):MbOk B:=by
 obtain ⟨-,-,-,hp,hf,hv,-⟩:=zay h;have hp6:B.ports.length≤6:=by unfold in3 at hp; simp at hp; omega
 have hf':=(zfe B.f).1 hf;unfold zS at hv;simp only [Bool.and_eq_true,List.all_eq_true,decide_eq_true_eq,beq_iff_eq] at hv;refine ⟨hp6,hv.1.1.1.2,hf'.2,fun r hr => ?_,fun e he => ?_,by have:=hv.1.1.1.1.2; omega⟩
 ·have h1:=hv.1.1.2 r hr;unfold zap in3 at h1;simp only [Bool.and_eq_true,decide_eq_true_eq] at h1;omega
 ·have h1:=(zfa e).1 (hf'.1.1 e he);exact ⟨h1.1,h1.2.1,h1.2.2.1⟩

theorem d_len {l:List BI} {d:List BD} (h:l.map BI.d=d):l.length=d.length:=by rw [← h,List.length_map]

theorem zbd (a:Option Addr) (n c:Nat) (fa:Option Addr) (fn fc:Nat) (ra:Option Addr) (rn rc:Nat) (oa:Option Addr) (on oc:Nat) (B:BR) (w:World) (h:BrRow w a n c fa fn fc ra rn rc oa on oc B) :
  Calls Tryz.prog 38 #[.agg #[.int .i64 B.id,.string B.name,.slice a n c,.slice fa fn fc,.slice ra rn rc,.slice oa on oc,.int .i64 B.ticks,.int .i64 B.parse,.int .i64 B.word,.int .i64 B.drops,.int .i64 B.vers]] w fun e w'=>∃(ao:Option Addr) (cap:Nat) (l:List BI),e=.returned (.slice ao l.length cap)∧l.map BI.d=zw B∧BOwns w' w.heap.size ao l.length cap l∧Below w.heap.size w w':=by
 generalize hw1:w.alloc (Obj.cells #[.int .i64 B.id,.string B.name,.slice a n c,.slice fa fn fc,.slice ra rn rc,.slice oa on oc,.int .i64 B.ticks,.int .i64 B.parse,.int .i64 B.word,.int .i64 B.drops,.int .i64 B.vers] 40)=w1;have b1:=zb hw1;have k1:=zk hw1;have HZ:Hid (w1.heap.size=w.heap.size+1):=hide (by rw [← hw1]; simp);have HH:=hide h;obtain ⟨x0,x1,x2,x3,x4,x5,x6,x7,x8,x9,x10⟩:=zh k1;go_enter Tryz.func38,Tryz.ntmps38;go_wp2_with fail
 clear hw1;refine (zb9 a n c fa fn fc ra rn rc oa on oc B _ (h.below b1)).mono ?_;rintro e w2 ⟨rfl,hb2⟩;have k2:=zd k1 hb2;have b2:=ze b1 hb2;have HZ2:Hid (w.heap.size+1≤w2.heap.size):=hide (by have:=hb2.size; have:=HZ.out; omega);clear hb2 k1 b1 x0 x1 x2 x3 x4 x5 x6 x7 x8 x9 x10 h;cases hok:zx B
 ·have HM:Hid (zw B=[]):=hide (by unfold zw; rw [if_neg (by rw [hok]; decide)]);generalize hwn:w2.alloc (Obj.cells #[] 51)=wn;have bn:=zb hwn;have kn:=zk hwn;have HO:=hide (zeO kn (show w.heap.size≤w2.heap.size from b2.size));have HB:=hide (ze b2 bn);clear hok bn kn k2 b2;go_wp2;go_ret;exact ⟨_,_,[],rfl,HM.out.symm,HO.out,HB.out⟩
 ·have HM:Hid (zw B=zbk B):=hide (by unfold zw; rw [if_pos hok]);have HOK:=hide (mb_ok hok);have HN:Hid (n=B.ports.length∧rn=B.v.rows.length∧fn=B.f.length∧on=B.v.own.length):=hide ⟨HH.out.ports.size.symm,HH.out.v.rows.size.symm,HH.out.f.size.symm,HH.out.v.own.size.symm⟩;have HNAME:Hid (B.name.size≤maxLen):=hide (by have:=(zay hok).2.2.1; unfold maxLen; omega);clear hok;obtain ⟨x0,x1,x2,x3,x4,x5,x6,x7,x8,x9,x10⟩:=zh k2;(go_upto_region 3 with fail);have vv:Below w2.heap.size w2 w2.drew:=zR (Below.refl _ _);refine wp_region_held_drew (S:=(fun W=>zcc W w.heap.size 1 (.string B.name))) (by kernel_rfl) ((zh (zd k2 vv)).2.1) (fun hHeld => ?_);refine kK 2 ?_;refine kK 3 ?_;refine kK 4 ?_;refine kR 0 fun K hK => ?_
  go_simp;clear hHeld
  first
  | refine zbo (K:=K _) (fun wx kI hbx => ?_)
  | refine za0 (K:=K _) (fun wx kI hbx => ?_)
  have vv:=ze vv hbx;refine kO hK ((zh (zd k2 vv)).2.1) fun hHeld => ?_
  clear hK K;refine kR 1 fun K hK => ?_
  go_simp;clear hHeld;refine (zbQ _ 2 2 [1,1] _ (zO (base:=0) (by rw [← z7]; exact zab intF (base:=0) (l:=[1,1]) kI rfl (Nat.zero_le _) (by simp)) (by intro z hz; simp at hz; omega)) (by omega)).mono ?_;rintro e wz ⟨na,nc,rfl,oN,hbz⟩;have oN:=zbN oN vv.size;have vv:=ze vv hbz;clear hbz;(go_wp2_with fail);refine kO hK ((zh (zd k2 vv)).2.1) fun hHeld => ?_
  clear hK K;refine kK 5 ?_;refine kR 6 fun K hK => ?_
  go_simp;clear hHeld
  first
  | refine zbo (K:=K _) (fun wy kY hby => ?_)
  | refine za0 (K:=K _) (fun wy kY hby => ?_)
  have gY:=vv.size;have vv:=ze vv hby;refine kO hK ((zh (zd k2 vv)).2.1) fun hHeld => ?_
  clear hK K;refine kK 7 ?_;refine wpAnyH_done (by kernel_rfl) ?_ _;clear hHeld;have st:MbSt w wy #[.int .i64 B.id,.string B.name,.slice a n c,.slice fa fn fc,.slice ra rn rc,.slice oa on oc,.int .i64 B.ticks,.int .i64 B.parse,.int .i64 B.word,.int .i64 B.drops,.int .i64 B.vers] (some ⟨wz.heap.size,0,none⟩) 1 [(⟨na,5,nc,nmI [1,1],4,0,B.name,none,0,0,[]⟩:BI)]:=⟨zd k2 vv,ze6 (y:=(⟨na,5,nc,nmI [1,1],4,0,B.name,none,0,0,[]⟩:BI)) kY (Nat.le_trans HZ2.out gY) ⟨zbN (zY oN hby) HZ2.out,World.ownsRow_nil _ _ _ _,by intro z hz; simp [nmI] at hz; omega,(by intro z hz; cases hz),HNAME.out⟩ (by show (blkL na++blkL none).Nodup; cases na <;> simp [blkL]),ze b2 vv⟩;have hd:[(⟨na,5,nc,nmI [1,1],4,0,B.name,none,0,0,[]⟩:BI)].map BI.d=[nameD B.name]:=rfl;have HL0:Hid ([(⟨na,5,nc,nmI [1,1],4,0,B.name,none,0,0,[]⟩:BI)].length=1):=hide rfl;clear kY kI oN vv gY hbx hby k2 b2 x0 x1 x2 x3 x4 x5 x6 x7 x8 x9 x10;generalize wz.heap.size=G at *;have HLEN:=hide (d_len hd);have HSM:[nameD B.name].length≤1000:=by simp
  generalize hwa:wy.alloc (Obj.cells #[.int .i64 1,.int .i64 2] 3)=wa;have ba:=zb hwa;have ka:=zk hwa;have st:=st.later ba;obtain ⟨x0,x1,x2,x3,x4,x5,x6,x7,x8,x9,x10⟩:=zh st.box;(go_wp2_with fail);clear hwa x0 x1 x2 x3 x4 x5 x6 x7 x8 x9 x10;refine (zai (some ⟨G,0,none⟩) 1 [(⟨na,5,nc,nmI [1,1],4,0,B.name,none,0,0,[]⟩:BI)] _ 2 2 [1,2] B.ticks (w.heap.size+1) _ st.own (zO (base:=0) (by rw [← z7]; exact zab intF (base:=0) (l:=[1,2]) ka rfl (Nat.zero_le _) (by simp)) (by intro z hz; simp at hz; omega)) (by omega) (by rw [HLEN.out]; exact HSM) st.base).mono ?_;rintro e v1 ⟨o1,p1,y,rfl,hy,hO,hbz⟩;have st:=st.next hbz hO;have hd:([(⟨na,5,nc,nmI [1,1],4,0,B.name,none,0,0,[]⟩:BI)]++[y]).map BI.d=[nameD B.name,numD [1,2] B.ticks]:=by rw [List.map_append,hd]; rw [List.map_singleton,hy]; rfl
  have HLL:Hid (([(⟨na,5,nc,nmI [1,1],4,0,B.name,none,0,0,[]⟩:BI)]++[y]).length=[(⟨na,5,nc,nmI [1,1],4,0,B.name,none,0,0,[]⟩:BI)].length+1):=hide (by simp);clear hy hO hbz ka HLEN;clear ba HSM;rw [← HLL.out];generalize [(⟨na,5,nc,nmI [1,1],4,0,B.name,none,0,0,[]⟩:BI)]++[y]=l1 at *;clear HLL;have HLEN:=hide (d_len hd);have HSM:[nameD B.name,numD [1,2] B.ticks].length≤1000:=by simp
  generalize hwa:v1.alloc (Obj.cells #[.int .i64 1,.int .i64 3] 3)=wa;have ba:=zb hwa;have ka:=zk hwa;have st:=st.later ba;obtain ⟨x0,x1,x2,x3,x4,x5,x6,x7,x8,x9,x10⟩:=zh st.box;(go_wp2_with fail);clear hwa x0 x1 x2 x3 x4 x5 x6 x7 x8 x9 x10;refine (zai o1 p1 l1 _ 2 2 [1,3] B.parse (w.heap.size+1) _ st.own (zO (base:=0) (by rw [← z7]; exact zab intF (base:=0) (l:=[1,3]) ka rfl (Nat.zero_le _) (by simp)) (by intro z hz; simp at hz; omega)) (by omega) (by rw [HLEN.out]; exact HSM) st.base).mono ?_;rintro e v2 ⟨o2,p2,y,rfl,hy,hO,hbz⟩;have st:=st.next hbz hO;have hd:(l1++[y]).map BI.d=[nameD B.name,numD [1,2] B.ticks,numD [1,3] B.parse]:=by rw [List.map_append,hd]; rw [List.map_singleton,hy]; rfl
  have HLL:Hid ((l1++[y]).length=l1.length+1):=hide (by simp);clear hy hO hbz ka HLEN;clear ba HSM;rw [← HLL.out];generalize l1++[y]=l2 at *;clear HLL;have HLEN:=hide (d_len hd);have HSM:[nameD B.name,numD [1,2] B.ticks,numD [1,3] B.parse].length≤1000:=by simp
  generalize hwa:v2.alloc (Obj.cells #[.int .i64 1,.int .i64 4] 3)=wa;have ba:=zb hwa;have ka:=zk hwa;have st:=st.later ba;obtain ⟨x0,x1,x2,x3,x4,x5,x6,x7,x8,x9,x10⟩:=zh st.box;(go_wp2_with fail);clear hwa x0 x1 x2 x3 x4 x5 x6 x7 x8 x9 x10;refine (zai o2 p2 l2 _ 2 2 [1,4] B.word (w.heap.size+1) _ st.own (zO (base:=0) (by rw [← z7]; exact zab intF (base:=0) (l:=[1,4]) ka rfl (Nat.zero_le _) (by simp)) (by intro z hz; simp at hz; omega)) (by omega) (by rw [HLEN.out]; exact HSM) st.base).mono ?_;rintro e v3 ⟨o3,p3,y,rfl,hy,hO,hbz⟩;have st:=st.next hbz hO;have hd:(l2++[y]).map BI.d=[nameD B.name,numD [1,2] B.ticks,numD [1,3] B.parse,numD [1,4] B.word]:=by rw [List.map_append,hd]; rw [List.map_singleton,hy]; rfl
  have HLL:Hid ((l2++[y]).length=l2.length+1):=hide (by simp);clear hy hO hbz ka HLEN;clear ba HSM;rw [← HLL.out];generalize l2++[y]=l3 at *;clear HLL;have HLEN:=hide (d_len hd);have HSM:[nameD B.name,numD [1,2] B.ticks,numD [1,3] B.parse,numD [1,4] B.word].length≤1000:=by simp
  generalize hwa:v3.alloc (Obj.cells #[.int .i64 1,.int .i64 5] 3)=wa;have ba:=zb hwa;have ka:=zk hwa;have st:=st.later ba;obtain ⟨x0,x1,x2,x3,x4,x5,x6,x7,x8,x9,x10⟩:=zh st.box;(go_wp2_with fail);clear hwa x0 x1 x2 x3 x4 x5 x6 x7 x8 x9 x10;refine (zai o3 p3 l3 _ 2 2 [1,5] B.drops (w.heap.size+1) _ st.own (zO (base:=0) (by rw [← z7]; exact zab intF (base:=0) (l:=[1,5]) ka rfl (Nat.zero_le _) (by simp)) (by intro z hz; simp at hz; omega)) (by omega) (by rw [HLEN.out]; exact HSM) st.base).mono ?_;rintro e v4 ⟨o4,p4,y,rfl,hy,hO,hbz⟩;have st:=st.next hbz hO;have hd:(l3++[y]).map BI.d=[nameD B.name,numD [1,2] B.ticks,numD [1,3] B.parse,numD [1,4] B.word,numD [1,5] B.drops]:=by rw [List.map_append,hd]; rw [List.map_singleton,hy]; rfl
  have HLL:Hid ((l3++[y]).length=l3.length+1):=hide (by simp);clear hy hO hbz ka HLEN;clear ba HSM;rw [← HLL.out];generalize l3++[y]=l4 at *;clear HLL;obtain ⟨x0,x1,x2,x3,x4,x5,x6,x7,x8,x9,x10⟩:=zh st.box;(go_wp2_with fail);clear x0 x1 x2 x3 x4 x5 x6 x7 x8 x9 x10
  go_loopw [3,4,5] (fun v3 vc u5 wr=>∃(k:Nat) (ao:Option Addr) (cap:Nat) (l:List BI),v3=.slice ao l.length cap∧vc=.int .i64 ((k:Int)+1)∧k≤4∧l.map BI.d=zW B++zI (zL B) k∧MbSt w wr #[.int .i64 B.id,.string B.name,.slice a n c,.slice fa fn fc,.slice ra rn rc,.slice oa on oc,.int .i64 B.ticks,.int .i64 B.parse,.int .i64 B.word,.int .i64 B.drops,.int .i64 B.vers] ao cap l) (fun _ vc _ _=>6 - (intOf vc).toNat)
  case atStart=>exact ⟨0,o4,p4,l4,rfl,rfl,Nat.zero_le _,by rw [hd]; simp [zI,zW],st⟩
  case round =>
   clear st hd;obtain ⟨k,ao,cap,l,rfl,rfl,hk,hd,st⟩:=hrel;obtain ⟨x0,x1,x2,x3,x4,x5,x6,x7,x8,x9,x10⟩:=zh st.box;by_cases hk4:k < 4
   ·have hk4':(k:Int)+1≤4:=by omega
    have HDK:=hide hd;(go_wp2_with fail)
    go_loopw [3,5] (fun v3 vp wr=>∃(p:Nat) (ao:Option Addr) (cap:Nat) (l:List BI),v3=.slice ao l.length cap∧vp=.int .i64 (p:Int)∧p≤n∧l.map BI.d=zW B++zI (zL B) k++zV (portB B ((k:Int)+1)) B.ports p∧MbSt w wr #[.int .i64 B.id,.string B.name,.slice a n c,.slice fa fn fc,.slice ra rn rc,.slice oa on oc,.int .i64 B.ticks,.int .i64 B.parse,.int .i64 B.word,.int .i64 B.drops,.int .i64 B.vers] ao cap l) (fun _ vp _=>7 - (intOf vp).toNat)
    case atStart=>exact ⟨0,ao,cap,l,rfl,rfl,Nat.zero_le _,by rw [hd]; simp [zV],st⟩
    case round =>
     clear st hd HDK x0 x1 x2 x3 x4 x5 x6 x7 x8 x9 x10;obtain ⟨p,ao,cap,l,rfl,rfl,hp,hd,st⟩:=hrel;obtain ⟨x0,x1,x2,x3,x4,x5,x6,x7,x8,x9,x10⟩:=zh st.box;have ht6:(n:Int)≤6:=by have:=HN.out; have:=HOK.out.p; have:=HOK.out.r; omega
     by_cases hi:p < n
     ·have hi':(p:Int) < (n:Int):=by omega
      obtain ⟨x,hx⟩:∃x,B.ports[p]? = some x:=⟨_,List.getElem?_eq_getElem (by have:=HN.out; omega)⟩;have HX:=hide hx;have HLEN:=hide (d_len hd);have HSM:(zW B++zI (zL B) k++zV (portB B ((k:Int)+1)) B.ports p).length≤1000:=by
       have h1:=zan (g:=zL B) (m:=6) (fun c=>Nat.le_trans (zX _ _ _) HOK.out.p) k;have h2:=zX (portB B ((k:Int)+1)) B.ports p;rw [List.length_append,List.length_append]
       have:(zW B).length=5:=rfl
       have:=HOK.out.p
       have:=HN.out.1
       omega
      generalize hwa:wr.alloc (Obj.cells #[.int .i64 2,.int .i64 ((k:Int)+1),.int .i64 ((p:Int)+1)] 3)=wa;have ba:=zb hwa;have ka:=zk hwa;have st:=st.later ba;obtain ⟨y0,y1,y2,y3,y4,y5,y6,y7,y8,y9,y10⟩:=zh st.box;(go_wp2_with fail);clear hwa x0 x1 x2 x3 x4 x5 x6 x7 x8 x9 x10 y0 y1 y2 y3 y4 y5 y6 y7 y8 y9 y10 ba;refine (zdf a n c fa fn fc ra rn rc oa on oc B ((k:Int)+1) p x _ (HH.out.below st.below) hx (by have:=HN.out; have:=HOK.out.o; omega)).mono ?_;rintro e wb ⟨rfl,hbb⟩;have ka:=zd ka hbb;have st:=st.later hbb;clear hbb hx;(go_wp2_with fail);refine (zai ao cap l _ 3 3 [2,(k:Int)+1,(p:Int)+1] _ (w.heap.size+1) _ st.own (zO (base:=0) (by rw [← z7]; exact zab intF (base:=0) (l:=[2,(k:Int)+1,(p:Int)+1]) ka rfl (Nat.zero_le _) (by simp)) (by intro z hz; simp at hz; omega)) (by omega) (by rw [HLEN.out]; exact HSM) st.base).mono ?_;rintro e wd ⟨ao2,cap2,y,rfl,hy,hO,hbz⟩;have st:=st.next hbz hO;have hd:(l++[y]).map BI.d=zW B++zI (zL B) k++zV (portB B ((k:Int)+1)) B.ports (p+1):=by rw [List.map_append,hd]; rw [List.map_singleton,hy,za5 HX.out,← List.append_assoc]; rfl
      have HLL:Hid ((l++[y]).length=l.length+1):=hide (by simp);clear hy hO hbz ka HLEN;have HST:=hide st;have HD:=hide hd;clear st hd HSM;go_wp2
      go_roundw
      case rel=>exact ⟨p+1,ao2,cap2,l++[y],by rw [HLL.out],by go_num,by omega,HD.out,HST.out⟩
      case measure=>simp [intOf]; omega
     ·have hi':¬(p:Int) < (n:Int):=by omega
      have hpn:p=n:=by omega
      have HD:Hid (l.map BI.d=zW B++zI (zL B) (k+1)):=hide (by
       rw [hd,hpn,show zI (zL B) (k+1)=zI (zL B) k++zL B ((k:Int)+1) from rfl,show zL B ((k:Int)+1)=zV (portB B ((k:Int)+1)) B.ports n by rw [HN.out.1]; rfl,← List.append_assoc])
      have HST:=hide st;clear st hd hpn;go_wp2
      go_roundw
      case rel=>exact ⟨k+1,ao,cap,l,rfl,by go_num,by omega,HD.out,HST.out⟩
      case measure=>simp [intOf]; omega
   ·have hk4':¬(k:Int)+1≤4:=by omega
    have hke:k=4:=by omega
    subst hke;(go_wp2_with fail)
    go_loopw [3,6,7] (fun v3 vc u7 wr=>∃(k:Nat) (ao:Option Addr) (cap:Nat) (l:List BI),v3=.slice ao l.length cap∧vc=.int .i64 ((k:Int)+1)∧k≤3∧l.map BI.d=zW B++zI (zL B) 4++zI (zaf B) k∧MbSt w wr #[.int .i64 B.id,.string B.name,.slice a n c,.slice fa fn fc,.slice ra rn rc,.slice oa on oc,.int .i64 B.ticks,.int .i64 B.parse,.int .i64 B.word,.int .i64 B.drops,.int .i64 B.vers] ao cap l) (fun _ vc _ _=>5 - (intOf vc).toNat)
    case atStart=>exact ⟨0,ao,cap,l,rfl,rfl,Nat.zero_le _,by rw [hd]; simp [zI],st⟩
    case round =>
     clear st hd;obtain ⟨k,ao,cap,l,rfl,rfl,hk,hd,st⟩:=hrel;obtain ⟨x0,x1,x2,x3,x4,x5,x6,x7,x8,x9,x10⟩:=zh st.box;by_cases hk4:k < 3
     ·have hk4':(k:Int)+1≤3:=by omega
      have HDK:=hide hd;(go_wp2_with fail)
      go_loopw [3,7] (fun v3 vp wr=>∃(i:Nat) (ao:Option Addr) (cap:Nat) (l:List BI),v3=.slice ao l.length cap∧vp=.int .i64 (i:Int)∧i≤rn∧l.map BI.d=zW B++zI (zL B) 4++zI (zaf B) k++zV (rowB ((k:Int)+1)) B.v.rows i∧MbSt w wr #[.int .i64 B.id,.string B.name,.slice a n c,.slice fa fn fc,.slice ra rn rc,.slice oa on oc,.int .i64 B.ticks,.int .i64 B.parse,.int .i64 B.word,.int .i64 B.drops,.int .i64 B.vers] ao cap l) (fun _ vp _=>7 - (intOf vp).toNat)
      case atStart=>exact ⟨0,ao,cap,l,rfl,rfl,Nat.zero_le _,by rw [hd]; simp [zV],st⟩
      case round =>
       clear st hd HDK x0 x1 x2 x3 x4 x5 x6 x7 x8 x9 x10;obtain ⟨i,ao,cap,l,rfl,rfl,hp,hd,st⟩:=hrel;obtain ⟨x0,x1,x2,x3,x4,x5,x6,x7,x8,x9,x10⟩:=zh st.box;have ht6:(rn:Int)≤6:=by have:=HN.out; have:=HOK.out.p; have:=HOK.out.r; omega
       by_cases hi:i < rn
       ·have hi':(i:Int) < (rn:Int):=by omega
        obtain ⟨r,rb,ro,hx,hra,r0,r1,r2⟩:=zak (HH.out.v.rows.below st.below) i hi;have hrb:rb < w.heap.size:=by
         obtain ⟨_,_,_,hx2,hra2,q0,-⟩:=zak HH.out.v.rows i hi;rw [hra] at hra2;cases hra2;exact zj q0
        have HX:=hide hx;have hri:=HOK.out.ri r (List.mem_of_getElem? hx);rw [hra] at x4;have i1:(0:Int)≤(i:Int):=by omega
        have i2:(i:Int) < (rn:Int):=by omega
        have HSM:(zW B++zI (zL B) 4++zI (zaf B) k++zV (rowB ((k:Int)+1)) B.v.rows i).length≤1000:=by
         have h1:=zan (g:=zL B) (m:=6) (fun c=>Nat.le_trans (zX _ _ _) HOK.out.p) 4;have h2:=zan (g:=zaf B) (m:=6) (fun c=>Nat.le_trans (zX _ _ _) HOK.out.r) k;have h3:=zX (rowB ((k:Int)+1)) B.v.rows i;simp only [List.length_append]
         have:(zW B).length=5:=rfl
         have q1:=HOK.out.r;have q2:=HN.out.2.1;omega
        have hbase:=st.base;have HS:Hid (∀W,Below (w.heap.size+1) wr W→zcc W w.heap.size 4 (.slice (some ⟨rb,ro,none⟩) rn rc)∧(zcc W rb (ro+i*3) (.int .i64 r.i)∧zcc W rb (ro+i*3+1) (.int .i64 r.m)∧zcc W rb (ro+i*3+2) (.int .i64 r.b))):=hide (fun W hW=>⟨(hW.cell (show w.heap.size < w.heap.size+1 from Nat.lt_succ_self _)).trans x4,(hW.cell (show rb < w.heap.size+1 from Nat.lt_succ_of_lt hrb)).trans r0,(hW.cell (show rb < w.heap.size+1 from Nat.lt_succ_of_lt hrb)).trans r1,(hW.cell (show rb < w.heap.size+1 from Nat.lt_succ_of_lt hrb)).trans r2⟩);have vv:Below wr.heap.size wr wr.drew:=zR (Below.refl _ _);have hkk:k < 3:=by omega
        clear hx hra;(go_upto_region 21 with fail);clear x0 x1 x2 x3 x4 x5 x6 x7 x8 x9 x10 r0 r1 r2;refine wp_region_held_drew (S:=(fun W=>zcc W w.heap.size 4 (.slice (some ⟨rb,ro,none⟩) rn rc)∧(zcc W rb (ro+i*3) (.int .i64 r.i)∧zcc W rb (ro+i*3+1) (.int .i64 r.m)∧zcc W rb (ro+i*3+2) (.int .i64 r.b)))) (by kernel_rfl) ((by first | exact HS.out _ vb | exact HS.out _ (vv.mono hbase))) (fun hHeld => ?_)
        repeat' first
        |
         with_reducible refine kLa ?_
         first
         |
          refine kLf 0 ?_;refine kK 0 ?_
         |
          refine kLf 1 ?_;refine kK 1 ?_
         |
          refine kLf 2 ?_;refine kK 2 ?_
         |
          refine kLf 3 ?_;refine kK 3 ?_
         |
          refine kLf 4 ?_;refine kK 4 ?_
         |
          refine kLf 5 ?_;refine kK 5 ?_
         |
          refine kLf 6 ?_;refine kK 6 ?_
         |
          refine kLf 7 ?_;refine kK 7 ?_
         |
          refine kLf 8 ?_;refine kK 8 ?_
         |
          refine kLf 10 ?_;refine kK 10 ?_
         |
          refine kLf 11 ?_;refine kK 11 ?_
         |
          refine kLf 12 ?_;refine kK 12 ?_
         |
          refine kLf 13 ?_;refine kK 13 ?_
         |
          refine kLf 14 ?_;refine kK 14 ?_
         |
          refine kLf 15 ?_;refine kK 15 ?_
         |
          refine kLf 16 ?_;refine kK 16 ?_
         |
          refine kLf 19 ?_;refine kK 19 ?_
         |
          refine kLp [9,17] ?_
         |
          refine kLp [17] ?_
         |
          refine kLp [18] ?_
         |
          refine kLp [9] ?_
         |
          refine wpAnyH_done (by kernel_rfl) ?_ _;have HST:=hide st;have HD:=hide hd;clear hHeld st hd vv vb;go_wp2
          go_roundw
          case rel=>exact ⟨i+1,ao2,cap2,l++[y],by rw [HLL.out],by go_num,by omega,HD.out,HST.out⟩
          case measure=>simp [intOf]; omega
        |
         exact AllReadyH.nil
        |
         refine kLc 9 (fun K hK => ?_) ?_;go_simp
         first
         | refine zbo (K:=K _) (fun wa ka hbx => ?_)
         | refine za0 (K:=K _) (fun wa ka hbx => ?_)
         have vv:=ze vv hbx;clear hbx;refine kO hK ((by first | exact HS.out _ vb | exact HS.out _ (vv.mono hbase))) fun hHeld => ?_
         clear hK K
        |
         refine kLc 17 (fun K hK => ?_) ?_;go_simp;refine (zdQ r ((k:Int)+1) _).mono ?_;rintro e wb ⟨rfl,hbb⟩;(try have ka:=zd ka hbb);have vv:=ze vv hbb;clear hbb;(go_wp2_with fail);refine kO hK ((by first | exact HS.out _ vb | exact HS.out _ (vv.mono hbase))) fun hHeld => ?_
         clear hK K
        |
         refine kLc 18 (fun K hK => ?_) ?_;go_simp;have st:=st.later vv;have HLEN:=hide (d_len hd);refine (zai ao cap l _ 3 3 [3,(k:Int)+1,r.i] _ (w.heap.size+1) _ st.own (zO (base:=0) (by rw [← z7]; exact zab intF (base:=0) (l:=[3,(k:Int)+1,r.i]) ka rfl (Nat.zero_le _) (by simp)) (by intro z hz; simp at hz; omega)) (by omega) (by rw [HLEN.out]; exact HSM) st.base).mono ?_;rintro e wd ⟨ao2,cap2,y,rfl,hy,hO,hbz⟩;have st:=st.next hbz hO;have vb:=(vv.mono hbase).trans hbz;have hd:(l++[y]).map BI.d=zW B++zI (zL B) 4++zI (zaf B) k++zV (rowB ((k:Int)+1)) B.v.rows (i+1):=by rw [List.map_append,hd,List.map_singleton,hy,za5 HX.out,← List.append_assoc]; rfl
         have HLL:Hid ((l++[y]).length=l.length+1):=hide (by simp);clear hy hO hbz HLEN;(go_wp2_with fail);refine kO hK ((by first | exact HS.out _ vb | exact HS.out _ (vv.mono hbase))) fun hHeld => ?_
         clear hK K
       ·have hi':¬(i:Int) < (rn:Int):=by omega
        have hpn:i=rn:=by omega
        have HD:Hid (l.map BI.d=zW B++zI (zL B) 4++zI (zaf B) (k+1)):=hide (by
         rw [hd,hpn,show zI (zaf B) (k+1)=zI (zaf B) k++zaf B ((k:Int)+1) from rfl,show zaf B ((k:Int)+1)=zV (rowB ((k:Int)+1)) B.v.rows rn by rw [HN.out.2.1]; rfl,← List.append_assoc])
        have HST:=hide st;clear st hd hpn;go_wp2
        go_roundw
        case rel=>exact ⟨k+1,ao,cap,l,rfl,by go_num,by omega,HD.out,HST.out⟩
        case measure=>simp [intOf]; omega
     ·have hk4':¬(k:Int)+1≤3:=by omega
      have hke:k=3:=by omega
      subst hke;(go_wp2_with fail)
      go_loopw [3,8] (fun v3 vi wr=>∃(i:Nat) (ao:Option Addr) (cap:Nat) (l:List BI),v3=.slice ao l.length cap∧vi=.int .i64 (i:Int)∧i≤fn∧l.map BI.d=zW B++zI (zL B) 4++zI (zaf B) 3++zV entB B.f i∧MbSt w wr #[.int .i64 B.id,.string B.name,.slice a n c,.slice fa fn fc,.slice ra rn rc,.slice oa on oc,.int .i64 B.ticks,.int .i64 B.parse,.int .i64 B.word,.int .i64 B.drops,.int .i64 B.vers] ao cap l) (fun _ vi _=>13 - (intOf vi).toNat)
      case atStart=>exact ⟨0,ao,cap,l,rfl,rfl,Nat.zero_le _,by rw [hd]; simp [zV],st⟩
      case round =>
       clear st hd x0 x1 x2 x3 x4 x5 x6 x7 x8 x9 x10;obtain ⟨i,ao,cap,l,rfl,rfl,hp,hd,st⟩:=hrel;obtain ⟨x0,x1,x2,x3,x4,x5,x6,x7,x8,x9,x10⟩:=zh st.box;have ht6:(fn:Int)≤12:=by have:=HN.out; have:=HOK.out.f; omega
       by_cases hi:i < fn
       ·have hi':(i:Int) < (fn:Int):=by omega
        obtain ⟨r,rb,ro,hx,hra,r0,r1,r2,-⟩:=zaK (HH.out.f.below st.below) i hi;have hrb:rb < w.heap.size:=by
         obtain ⟨_,_,_,hx2,hra2,q0,-⟩:=zaK HH.out.f i hi;rw [hra] at hra2;cases hra2;exact zj q0
        have HX:=hide hx;have hri:=HOK.out.fi r (List.mem_of_getElem? hx);have hwp:IntKind.i64.wrap (r.p+1)=r.p+1:=by rw [IntKind.wrap_i64]; omega
        rw [hra] at x3;have i1:(0:Int)≤(i:Int):=by omega
        have i2:(i:Int) < (fn:Int):=by omega
        have HSM:(zW B++zI (zL B) 4++zI (zaf B) 3++zV entB B.f i).length≤1000:=by
         have h1:=zan (g:=zL B) (m:=6) (fun c=>Nat.le_trans (zX _ _ _) HOK.out.p) 4;have h2:=zan (g:=zaf B) (m:=6) (fun c=>Nat.le_trans (zX _ _ _) HOK.out.r) 3;have h3:=zX entB B.f i;simp only [List.length_append]
         have:(zW B).length=5:=rfl
         have q1:=HOK.out.f;have q2:=HN.out.2.2.1;omega
        have hbase:=st.base;have HS:Hid (∀W,Below (w.heap.size+1) wr W→zcc W w.heap.size 3 (.slice (some ⟨rb,ro,none⟩) fn fc)∧(zcc W rb (ro+i*5) (.int .i64 r.t)∧zcc W rb (ro+i*5+1) (.int .i64 r.m)∧zcc W rb (ro+i*5+2) (.int .i64 r.p))):=hide (fun W hW=>⟨(hW.cell (show w.heap.size < w.heap.size+1 from Nat.lt_succ_self _)).trans x3,(hW.cell (show rb < w.heap.size+1 from Nat.lt_succ_of_lt hrb)).trans r0,(hW.cell (show rb < w.heap.size+1 from Nat.lt_succ_of_lt hrb)).trans r1,(hW.cell (show rb < w.heap.size+1 from Nat.lt_succ_of_lt hrb)).trans r2⟩);have vv:Below wr.heap.size wr wr.drew:=zR (Below.refl _ _);clear hx hra;(go_upto_region 25 with fail);clear x0 x1 x2 x3 x4 x5 x6 x7 x8 x9 x10 r0 r1 r2;refine wp_region_held_drew (S:=(fun W=>zcc W w.heap.size 3 (.slice (some ⟨rb,ro,none⟩) fn fc)∧(zcc W rb (ro+i*5) (.int .i64 r.t)∧zcc W rb (ro+i*5+1) (.int .i64 r.m)∧zcc W rb (ro+i*5+2) (.int .i64 r.p)))) (by kernel_rfl) ((by first | exact HS.out _ vb | exact HS.out _ (vv.mono hbase))) (fun hHeld => ?_);refine kK 0 ?_;refine kK 1 ?_;refine kK 2 ?_;refine kK 3 ?_;refine kK 4 ?_;refine kK 5 ?_;refine kK 6 ?_;refine kK 7 ?_;refine kK 8 ?_;refine kK 9 ?_;refine kK 10 ?_;refine kK 11 ?_;refine kK 12 ?_;refine kK 14 ?_;refine kK 15 ?_;refine kK 16 ?_;refine kK 17 ?_;refine kK 18 ?_;refine kK 19 ?_;refine kK 20 ?_;refine kR 13 fun K hK => ?_
        go_simp
        first
        | refine zbo (K:=K _) (fun wa ka hbx => ?_)
        | refine za0 (K:=K _) (fun wa ka hbx => ?_)
        have vv:=ze vv hbx;clear hbx;refine kO hK ((by first | exact HS.out _ vb | exact HS.out _ (vv.mono hbase))) fun hHeld => ?_
        clear hK K;refine kR 21 fun K hK => ?_
        go_simp;have st:=st.later vv;have HLEN:=hide (d_len hd);refine (zai ao cap l _ 4 4 [4,1,r.t,r.m] _ (w.heap.size+1) _ st.own (zO (base:=0) (by rw [← z7]; exact zab intF (base:=0) (l:=[4,1,r.t,r.m]) ka rfl (Nat.zero_le _) (by simp)) (by intro z hz; simp at hz; omega)) (by omega) (by rw [HLEN.out]; exact HSM) st.base).mono ?_;rintro e wd ⟨ao2,cap2,y,rfl,hy,hO,hbz⟩;have st:=st.next hbz hO;have vb:=(vv.mono hbase).trans hbz;have hd:(l++[y]).map BI.d=zW B++zI (zL B) 4++zI (zaf B) 3++zV entB B.f (i+1):=by rw [List.map_append,hd,List.map_singleton,hy,za5 HX.out,← List.append_assoc]; rfl
        have HLL:Hid ((l++[y]).length=l.length+1):=hide (by simp);clear hy hO hbz HLEN;(go_wp2_with fail);refine kO hK ((by first | exact HS.out _ vb | exact HS.out _ (vv.mono hbase))) fun hHeld => ?_
        clear hK K;refine kK 22 ?_;refine wpAnyH_done (by kernel_rfl) ?_ _;have HST:=hide st;have HD:=hide hd;clear hHeld st hd vv vb;go_wp2
        go_roundw
        case rel=>exact ⟨i+1,ao2,cap2,l++[y],by rw [HLL.out],by go_num,by omega,HD.out,HST.out⟩
        case measure=>simp [intOf]; omega
       ·have hi':¬(i:Int) < (fn:Int):=by omega
        have hin:i=fn:=by omega
        have HD:Hid (l.map BI.d=zw B):=hide (by
         rw [HM.out,hd,hin];unfold zbk;rw [show zcv B=zV entB B.f fn by rw [HN.out.2.2.1]; rfl])
        have HO:=hide (st.own.lt (Nat.le_succ _));have HB:=hide st.below;clear st hd hin;go_wp2;go_ret;exact ⟨ao,cap,l,rfl,HD.out,HO.out,HB.out⟩

end

theorem zaZ {α:Type} {f:Nat→α→BD} {l:List α} {d:BD}:∀{k:Nat},d∈zV f l k→∃(i:Nat) (x:α),i < k∧l[i]? = some x∧d=f i x
 | 0,h=>by simp [zV] at h
 | k+1,h=>by
  rw [zV] at h
  split at h
  ·next x hx =>
   rcases List.mem_append.1 h with h | h
   ·obtain ⟨i,y,hi,hy,e⟩:=zaZ h;exact ⟨i,y,by omega,hy,e⟩
   ·rw [List.mem_singleton] at h;exact ⟨k,x,by omega,hx,h⟩
  ·obtain ⟨i,y,hi,hy,e⟩:=zaZ h;exact ⟨i,y,by omega,hy,e⟩

theorem zbU {g:Int→List BD} {d:BD}:∀{k:Nat},d∈zI g k→∃c:Nat,c < k∧d∈g ((c:Int)+1)
 | 0,h=>by simp [zI] at h
 | k+1,h=>by
  rw [zI] at h;rcases List.mem_append.1 h with h | h
  ·obtain ⟨c,hc,hd⟩:=zbU h;exact ⟨c,by omega,hd⟩
  ·exact ⟨k,by omega,h⟩

structure LitB (d:BD):Prop where
 o:d.o.length≤7
 i:∀z∈d.o,0≤z∧z≤9999
 s:d.S.size≤10
 z:d.z=[]
 k:d.K=2∨d.K=4

theorem zc3 {l:List Int} {n:Int} (h:l.length≤4) (hz:∀z∈l,0≤z∧z≤9999):LitB (numD l n):=by
 refine ⟨?_, ?_,by show (0:Nat)≤10; omega,rfl,.inl rfl⟩
 ·show (nmI l).length≤7
  unfold nmI;simp only [List.length_cons];omega
 ·intro z hzz;have hzz:z∈nmI l:=hzz;unfold nmI at hzz;simp only [List.mem_cons] at hzz;rcases hzz with rfl | rfl | rfl | h
  ·omega
  ·omega
  ·omega
  ·exact hz z h

theorem zgw {B:BR} (h:zx B=true):∀d∈zbk B,LitB d:=by
 have ok:=mb_ok h;intro d hd;unfold zbk at hd;simp only [List.mem_append] at hd;rcases hd with ((hd | hd) | hd) | hd
 ·unfold zW at hd;simp only [List.mem_cons,List.not_mem_nil,or_false] at hd;rcases hd with rfl | rfl | rfl | rfl | rfl
  ·refine ⟨by show (nmI [1,1]).length≤7; simp [nmI], ?_, ?_,rfl,.inr rfl⟩
   ·intro z hz;have hz:z∈nmI [1,1]:=hz
    simp [nmI] at hz
    omega
   ·have:=(zay h).2.2.1
    show B.name.size≤10
    omega
  all_goals exact zc3 (by simp) (by intro z hz; simp at hz; omega)
 ·obtain ⟨c,hc,hd⟩:=zbU hd;obtain ⟨p,x,hp,hx,rfl⟩:=zaZ hd
  have:=ok.p
  exact zc3 (by simp) (by intro z hz; simp at hz; omega)
 ·obtain ⟨c,hc,hd⟩:=zbU hd;obtain ⟨i,r,hi,hr,rfl⟩:=zaZ hd
  have:=ok.ri r (List.mem_of_getElem? hr)
  exact zc3 (by simp) (by intro z hz; simp at hz; omega)
 ·obtain ⟨i,e,hi,he,rfl⟩:=zaZ hd
  have:=ok.fi e (List.mem_of_getElem? he)
  exact zc3 (by simp) (by intro z hz; simp at hz; omega)

theorem zeC {B:BR}:∀d∈zw B,LitB d:=by
 unfold zw
 split
 ·next h=>exact zgw h
 ·intro d hd; cases hd

theorem zeB {B:BR} (ok:MbOk B):(zbk B).length≤100:=by
 have h1:=zan (g:=zL B) (m:=6) (fun c=>Nat.le_trans (zX _ _ _) ok.p) 4;have h2:=zan (g:=zaf B) (m:=6) (fun c=>Nat.le_trans (zX _ _ _) ok.r) 3;have h3:(zcv B).length≤B.f.length:=zX entB B.f B.f.length;have h4:(zW B).length=5:=rfl;have h5:=ok.f;unfold zbk;simp only [List.length_append];omega

theorem zdb (B:BR):(zw B).length≤100:=by
 unfold zw
 split
 ·next h=>exact zeB (mb_ok h)
 ·simp

theorem zdj {B:BR} {l:List BI} (h:l.map BI.d=zw B) {x:BI} (hx:x∈l):LitB x.d:=zeC x.d (by rw [← h]; exact List.mem_map_of_mem hx)

theorem zcz (a:Option Addr) (n c:Nat) (fa:Option Addr) (fn fc:Nat) (ra:Option Addr) (rn rc:Nat) (oa:Option Addr) (on oc:Nat) (B:BR) (ia:Option Addr) (il ic:Nat) (o:List Int) (w:World) (h:BrRow w a n c fa fn fc ra rn rc oa on oc B) (hi:IRow w ia il ic o) :
  Calls Tryz.prog 8 #[.agg #[.int .i64 B.id,.string B.name,.slice a n c,.slice fa fn fc,.slice ra rn rc,.slice oa on oc,.int .i64 B.ticks,.int .i64 B.parse,.int .i64 B.word,.int .i64 B.drops,.int .i64 B.vers],.slice ia il ic] w fun e w'=>∃(za:Option Addr) (zc:Nat),e=.returned (.agg #[.int .i64 (zbl (zw B) o).K,.int .i64 (zbl (zw B) o).N,.string (zbl (zw B) o).S,.slice za 0 zc])∧w'.ownsRow w.heap.size 3 1 (.slice za 0 zc) 0 (cI [])∧Below w.heap.size w w':=by
 generalize hw1:w.alloc (Obj.cells #[.int .i64 B.id,.string B.name,.slice a n c,.slice fa fn fc,.slice ra rn rc,.slice oa on oc,.int .i64 B.ticks,.int .i64 B.parse,.int .i64 B.word,.int .i64 B.drops,.int .i64 B.vers] 40)=w1;have b1:=zb hw1;have k1:=zk hw1;generalize hwr:w1.alloc (Obj.cells #[.int .i64 0,.int .i64 0,.string ⟨#[]⟩,.slice none 0 0] 32)=w1r;have b1r:=zb hwr;have kr0:=zk hwr;have b0r:=ze b1 b1r;have HW1:=hide b1.size;obtain ⟨x0,x1,x2,x3,x4,x5,x6,x7,x8,x9,x10⟩:=zh (zd k1 b1r);go_enter Tryz.func8,Tryz.ntmps8;go_wp2_with fail
 refine (zbd a n c fa fn fc ra rn rc oa on oc B _ (h.below b0r)).mono ?_;rintro e w2 ⟨la,lc,l,rfl,hd,ol,h2⟩;have b2:=ze b0r h2;have kr:=zd kr0 h2;have HBW:=hide b0r.size;clear x0 x1 x2 x3 x4 x5 x6 x7 x8 x9 x10 h k1 hw1 hwr h2 kr0 b1 b1r b0r;have HL:Hid (l.length≤100∧(zw B).length=l.length):=hide (by have h1:=congrArg List.length hd; rw [List.length_map] at h1; rw [h1]; exact ⟨zdb B,rfl⟩);have HAT:Hid (∀(i:Nat) x,l[i]? = some x→(zw B)[i]? = some x.d):=hide (fun i x hx=>by rw [← hd,List.getElem?_map,hx]; rfl);have HLIT:Hid (∀x∈l,LitB x.d):=hide (fun x hx=>zdj hd hx);have hi2:=hi.below b2;clear hd;go_wp2_with fail
 go_loopw [6] (fun vk wr=>∃(k:Nat),vk=.int .i64 (k:Int)∧k≤l.length∧(∀(i:Nat) y,i < k→(zw B)[i]? = some y→decide (y.o=o)=false)∧Below w2.heap.size w2 wr) (fun vk _=>102 - (intOf vk).toNat)
 case atStart=>exact ⟨0,rfl,Nat.zero_le _,(by intro i y hi; omega),Below.refl _ _⟩
 case round =>
  obtain ⟨k,rfl,hk,hno,hb⟩:=hrel;have hl100:=HL.out.1;have HNO:=hide hno;by_cases hkl:k < l.length
  ·have hkl':(k:Int) < (l.length:Int):=by omega
   have hk100:(k:Int)≤100:=by omega
   have hlc:=ol.brow.le;obtain ⟨x,xb,off,hx,hla,hat,hin⟩:=(ol.brow.below hb).at k hkl;subst hla;have HX:=hide (HAT.out k x hx);have HM:=hide (List.mem_of_getElem? hx);have HBS:=hide hb;have HATK:=hide hat;obtain ⟨a0,a1,a2,a3,a4⟩:=hat;have hnm:=hin.o;clear hx hno hb hin;(go_wp2_with fail);refine (zdR _ _ _ x.o ia il ic o _ hnm (hi2.below HBS.out)).mono ?_;rintro e w5 ⟨rfl,nd,rfl⟩;have h5:Below wr.heap.size wr (wr.drewN nd):=zU (Below.refl _ _) nd;have HB5:=hide (ze HBS.out h5);have hat5:=HATK.out.below h5;generalize wr.drewN nd=w5 at *;clear a0 a1 a2 a3 a4 h5 hnm HATK;cases hq:decide (x.o=o)
   ·have HNO2:=hide (zbF (p:=fun d:BD=>decide (d.o=o)) HNO.out HX.out hq);clear hq hat5;go_wp2
    go_roundw
    case rel=>exact ⟨k+1,by go_num,by omega,HNO2.out,HB5.out⟩
    case measure=>simp [intOf]; omega
   ·have HG:=hide (zex HNO.out HX.out hq);clear hq;have hzz:x.z=[]:=(HLIT.out x HM.out).z;have hox:=(ol.below HB5.out).item x HM.out;have HZO:=hide hox.z;have hzn:x.zn=0:=by have h1:=hox.z.1; rw [hzz] at h1; simp [cI] at h1; omega
    have HZZ:=hide hzz;have HZN:=hide hzn;obtain ⟨a0,a1,a2,a3,a4⟩:=hat5;have kr5:=zd kr HB5.out;have HKR:=hide kr5;obtain ⟨⟨q0,q1,q2,q3⟩,f0,f1,f2,f3⟩:=zK kr5;have HB6:=hide (ze b2 HB5.out);clear kr kr5 hzz hzn hox;go_wp2;refine bodyPost_ret (v:=.agg #[.int .i64 x.K,.int .i64 x.N,.string x.S,.slice x.za x.zn x.zc]) (by simp [results,Tryz.results8,go_sem, *]) rfl ?_;have gs:=zd5 w5 w1.heap.size (.int .i64 x.K) (.int .i64 x.N) (.string x.S) (.slice x.za x.zn x.zc);refine ⟨x.za,x.zc,(by rw [HG.out,HZN.out]; rfl), ?_,HB6.out.grown gs HB6.out.size (fun b hb2=>by cases hb2; exact HW1.out)⟩;have hne:(32:Nat)≠3:=by decide
    have hz:w5.ownsRow w.heap.size 3 1 (.slice x.za 0 x.zc) 0 (cI []):=by
     have h1:=zbN HZO.out HBW.out;rw [HZZ.out,HZN.out] at h1;exact h1
    exact zaJ hz gs (zaA hz HKR.out hne)
  ·have hkl':¬(k:Int) < (l.length:Int):=by omega
   have hke:k=l.length:=by omega
   have HG:=hide (zey (fun i y hi hy=>HNO.out i y (by have:=HL.out.2; omega) hy));obtain ⟨⟨q0,q1,q2,q3⟩,f0,f1,f2,f3⟩:=zK (zd kr hb);have HB6:=hide (ze b2 hb);clear hno hb kr hke;go_wp2;refine bodyPost_ret (v:=.agg #[.int .i64 128,.int .i64 0,.string ⟨#[]⟩,.slice none 0 0]) (by simp [results,Tryz.results8,go_sem, *]) rfl ⟨none,0,(by rw [HG.out]),World.ownsRow_nil _ _ _ _,zJ HB6.out HW1.out _ _ _ _⟩

end Go.Proofs.YtcpdkcdfnpcemabGreat
