/-
  Packed: MibListS MibOwn.
-/
import Derived.Test.YtljbdmlgfggadaaGreatPGK17
import Derived.Shelf.Abstract
namespace Go.Proofs.YtljbdmlgfggadaaGreat
set_option maxRecDepth 100000
set_option maxHeartbeats 16000000
open Go.RowKit

section
open Go.RowKit

abbrev q132:Oper:=⟨some 82,.buildSlice 27 3 #[(0,.const (.int .i64 3)),(1,.tmp 74),(2,.tmp 81)],27,"l17_mib.go:54",#[⟨1,.data⟩,⟨8,.data⟩],none⟩
abbrev q133:Oper:=⟨some 90,.call ⟨.value (.func 49),#[.tmp 88,.tmp 89],#[82,3]⟩,3,"l17_mib.go:54",#[⟨15,.data⟩,⟨16,.data⟩],none⟩
abbrev q134:Oper:=⟨some 91,.call ⟨.value (.func 47),#[.tmp 73,.tmp 82,.tmp 90],#[39,27,3]⟩,39,"l17_mib.go:54",#[⟨0,.data⟩,⟨9,.data⟩,⟨17,.data⟩,⟨17,.chain⟩],none⟩
abbrev q135:Oper:=⟨some 3,.assign (.tmp 91),39,"l17_mib.go:54",#[⟨18,.data⟩,⟨18,.chain⟩,⟨0,.phase⟩,⟨1,.phase⟩,⟨2,.phase⟩,⟨3,.phase⟩,⟨4,.phase⟩,⟨5,.phase⟩,⟨6,.phase⟩,⟨7,.phase⟩,⟨8,.phase⟩,⟨9,.phase⟩,⟨10,.phase⟩,⟨11,.phase⟩,⟨12,.phase⟩,⟨13,.phase⟩,⟨14,.phase⟩,⟨15,.phase⟩,⟨16,.phase⟩,⟨17,.phase⟩,⟨18,.phase⟩],none⟩

structure MbSt (w wr:World) (cs:Array Value) (ao:Option Addr) (cap:Nat) (l:List BI):Prop where
 box:wr.heap[w.heap.size]?=some (.cells cs 31)
 own:BOwns wr (w.heap.size+1) ao l.length cap l
 below:Below w.heap.size w wr

section
variable {w wr w':World} {cs:Array Value} {ao ao':Option Addr} {cap cap':Nat} {l l':List BI}
theorem MbSt.base (h:MbSt w wr cs ao cap l):w.heap.size+1≤wr.heap.size:=Nat.succ_le_of_lt (Array.getElem?_eq_some_iff.1 h.box).1
theorem MbSt.later (h:MbSt w wr cs ao cap l) (hb:Below wr.heap.size wr w'):MbSt w w' cs ao cap l:=⟨ze h.box hb,h.own.below hb,zd h.below hb⟩
theorem MbSt.next (h:MbSt w wr cs ao cap l) (hb:Below (w.heap.size+1) wr w') (ho:BOwns w' (w.heap.size+1) ao' l'.length cap' l'):MbSt w w' cs ao' cap' l' :=
 ⟨(hb.block _ (Nat.lt_succ_self _)).trans h.box,ho,h.below.trans (hb.mono (Nat.le_succ _))⟩
end

theorem zg7 {w:World} {g base:Nat} {y:BI} (h:w.heap[g]?=some (.cells #[.slice y.oa y.on y.oc,.int .i64 y.K,.int .i64 y.N,.string y.S,.slice y.za y.zn y.zc] 37)) (hb:base≤g) (hy:BOwn w base y) (hnd:y.blks.Nodup):BOwns w base (some ⟨g,0,none⟩) 1 1 [y] where
 row:=by
  refine ⟨by rw [zby]; rfl,.inr ⟨g,1,_,rfl,hb,h,Nat.le_refl _,by unfold maxLen; omega, ?_, ?_⟩⟩
  ·rfl
  ·rfl
 item:=fun x hx=>by
  rw [List.mem_singleton] at hx;subst hx;exact hy
 apart:=by simpa using hnd

theorem zgE {w0 w:World} {g:Nat} (h:w.heap[g]?=some (.cells #[] 37)) (hb:w0.heap.size≤g):BOwns w w0.heap.size (some ⟨g,0,none⟩) 0 0 [] :=
 ⟨zaK fentF w0 w 37 g h hb,(by intro x hx; cases hx),List.nodup_nil⟩

theorem za1 {g:Int→List BD} {m:Nat} (h:∀c,(g c).length≤m):∀k,(zaa g k).length≤k*m
 | 0=>by simp [zaa]
 | k+1=>by
  have:=za1 h k
  have:=h ((k:Int)+1)
  rw [zaa,List.length_append,Nat.add_mul];omega

structure MbOk (B:BR):Prop where
 p:B.ports.length≤6
 r:B.v.rows.length≤6
 f:B.f.length≤12
 ri:∀r∈B.v.rows,1≤r.i∧r.i≤99
 fi:∀e∈B.f,(1≤e.t∧e.t≤99)∧(1≤e.m∧e.m≤9999)∧(0≤e.p∧e.p≤7)
 o:B.v.own.length=B.ports.length

theorem mb_ok {B:BR} (h:zN B=true):MbOk B:=by
 obtain ⟨-,-,-,hp,hf,hv,-⟩:=zbh h;have hp6:B.ports.length≤6:=by unfold in3 at hp; simp at hp; omega
 have hf':=(za4 B.f).1 hf;unfold zP at hv;simp only [Bool.and_eq_true,List.all_eq_true,decide_eq_true_eq,beq_iff_eq] at hv;refine ⟨hp6,hv.1.1.1.2,hf'.2,fun r hr => ?_,fun e he => ?_,by have:=hv.1.1.1.1.2; omega⟩
 ·have h1:=hv.1.1.2 r hr;unfold za3 in3 at h1;simp only [Bool.and_eq_true,decide_eq_true_eq] at h1;omega
 ·have h1:=(ze3 e).1 (hf'.1.1 e he);exact ⟨h1.1,h1.2.1,h1.2.2.1⟩

theorem d_len {l:List BI} {d:List BD} (h:l.map BI.d=d):l.length=d.length:=by rw [← h,List.length_map]

theorem zaY (a:Option Addr) (n c:Nat) (fa:Option Addr) (fn fc:Nat) (ra:Option Addr) (rn rc:Nat) (oa:Option Addr) (on oc:Nat) (B:BR) (w:World) (h:BrRow w a n c fa fn fc ra rn rc oa on oc B) :
  Calls Tryz.prog 15 #[.agg #[.int .i64 B.id,.string B.name,.slice a n c,.slice fa fn fc,.slice ra rn rc,.slice oa on oc,.int .i64 B.ticks,.int .i64 B.parse,.int .i64 B.word,.int .i64 B.drops,.int .i64 B.vers]] w fun e w'=>∃(ao:Option Addr) (cap:Nat) (l:List BI),e=.returned (.slice ao l.length cap)∧l.map BI.d=zF B∧BOwns w' w.heap.size ao l.length cap l∧Below w.heap.size w w':=by
 generalize hw1:w.alloc (Obj.cells #[.int .i64 B.id,.string B.name,.slice a n c,.slice fa fn fc,.slice ra rn rc,.slice oa on oc,.int .i64 B.ticks,.int .i64 B.parse,.int .i64 B.word,.int .i64 B.drops,.int .i64 B.vers] 31)=w1;have b1:=zb hw1;have k1:=zk hw1;have HZ:Hid (w1.heap.size=w.heap.size+1):=hide (by rw [← hw1]; simp);have HH:=hide h;obtain ⟨x0,x1,x2,x3,x4,x5,x6,x7,x8,x9,x10⟩:=zi k1;go_enter Tryz.func15,Tryz.ntmps15;go_wp2_with fail
 clear hw1;refine (zdv a n c fa fn fc ra rn rc oa on oc B _ (h.below b1)).mono ?_;rintro e w2 ⟨rfl,hb2⟩;have k2:=ze k1 hb2;have b2:=zd b1 hb2;have HZ2:Hid (w.heap.size+1≤w2.heap.size):=hide (by have:=hb2.size; have:=HZ.out; omega);clear hb2 k1 b1 x0 x1 x2 x3 x4 x5 x6 x7 x8 x9 x10 h;cases hok:zN B
 ·have HM:Hid (zF B=[]):=hide (by unfold zF; rw [if_neg (by rw [hok]; decide)]);generalize hwn:w2.alloc (Obj.cells #[] 37)=wn;have bn:=zb hwn;have kn:=zk hwn;have HO:=hide (zgE kn (show w.heap.size≤w2.heap.size from b2.size));have HB:=hide (zd b2 bn);clear hok bn kn k2 b2;go_wp2;go_ret;exact ⟨_,_,[],rfl,HM.out.symm,HO.out,HB.out⟩
 ·have HM:Hid (zF B=zc0 B):=hide (by unfold zF; rw [if_pos hok]);have HOK:=hide (mb_ok hok);have HN:Hid (n=B.ports.length∧rn=B.v.rows.length∧fn=B.f.length∧on=B.v.own.length):=hide ⟨HH.out.ports.size.symm,HH.out.v.rows.size.symm,HH.out.f.size.symm,HH.out.v.own.size.symm⟩;have HNAME:Hid (B.name.size≤maxLen):=hide (by have:=(zbh hok).2.2.1; unfold maxLen; omega);clear hok;obtain ⟨x0,x1,x2,x3,x4,x5,x6,x7,x8,x9,x10⟩:=zi k2;(go_upto_region 3 with fail);have vv:Below w2.heap.size w2 w2.drew:=zw (Below.refl _ _);refine wp_region_held_drew (S:=(fun W=>zcc W w.heap.size 1 (.string B.name))) (by kernel_rfl) ((zi (ze k2 vv)).2.1) (fun hHeld => ?_);refine kK 2 ⟨some 15,.fieldAddr 31 (.tmp 1) 1,0,"l17_mib.go:42",#[],none⟩ ?_;refine kK 3 ⟨some 16,.load 9 (.tmp 15),9,"l17_mib.go:42",#[⟨2,.data⟩],none⟩ ?_;refine kK 4 ⟨some 17,.build 35 #[(0,.const (.int .i64 4)),(2,.tmp 16)],35,"l17_mib.go:42",#[⟨3,.data⟩],none⟩ ?_;refine kR 0 ⟨some 13,.buildSlice 27 2 #[(0,.const (.int .i64 1)),(1,.const (.int .i64 1))],27,"l17_mib.go:42",#[],none⟩ (fun K hK => ?_);go_simp;clear hHeld
  first
  | refine zaq (K:=K _) (fun wx kI hbx => ?_)
  | refine zal (K:=K _) (fun wx kI hbx => ?_)
  have vv:=zd vv hbx;refine kO hK ((zi (ze k2 vv)).2.1) fun hHeld => ?_
  clear hK K;refine kR 1 ⟨some 14,.call ⟨.value (.func 46),#[.tmp 13],#[27]⟩,27,"l17_mib.go:42",#[⟨0,.data⟩],none⟩ (fun K hK => ?_);go_simp;clear hHeld;refine (zah _ 2 2 [1,1] _ (zK (base:=0) (by rw [← zG]; exact zY intF (base:=0) (l:=[1,1]) kI rfl (Nat.zero_le _) (by simp)) (by intro z hz; simp at hz; omega)) (by omega)).mono ?_;rintro e wz ⟨na,nc,rfl,oN,hbz⟩;have oN:=zaU oN vv.size;have vv:=zd vv hbz;clear hbz;(go_wp2_with fail);refine kO hK ((zi (ze k2 vv)).2.1) fun hHeld => ?_
  clear hK K;refine kK 5 ⟨some 18,.build 37 #[(0,.tmp 14),(1,.tmp 17)],37,"l17_mib.go:42",#[⟨1,.data⟩,⟨4,.data⟩],none⟩ ?_;refine kR 6 ⟨some 19,.buildSlice 39 1 #[(0,.tmp 18)],39,"l17_mib.go:42",#[⟨5,.data⟩],none⟩ (fun K hK => ?_);go_simp;clear hHeld
  first
  | refine zaq (K:=K _) (fun wy kY hby => ?_)
  | refine zal (K:=K _) (fun wy kY hby => ?_)
  have gY:=vv.size;have vv:=zd vv hby;refine kO hK ((zi (ze k2 vv)).2.1) fun hHeld => ?_
  clear hK K;refine kK 7 ⟨some 3,.assign (.tmp 19),39,"l17_mib.go:42",#[⟨6,.data⟩,⟨1,.chain⟩,⟨0,.phase⟩,⟨1,.phase⟩,⟨2,.phase⟩,⟨3,.phase⟩,⟨4,.phase⟩,⟨5,.phase⟩,⟨6,.phase⟩],none⟩ ?_;refine wpAnyH_done (by kernel_rfl) ?_ _;clear hHeld;have st:MbSt w wy #[.int .i64 B.id,.string B.name,.slice a n c,.slice fa fn fc,.slice ra rn rc,.slice oa on oc,.int .i64 B.ticks,.int .i64 B.parse,.int .i64 B.word,.int .i64 B.drops,.int .i64 B.vers] (some ⟨wz.heap.size,0,none⟩) 1 [(⟨na,5,nc,nmI [1,1],4,0,B.name,none,0,0,[]⟩:BI)]:=⟨ze k2 vv,zg7 (y:=(⟨na,5,nc,nmI [1,1],4,0,B.name,none,0,0,[]⟩:BI)) kY (Nat.le_trans HZ2.out gY) ⟨zaU (zar oN hby) HZ2.out,World.ownsRow_nil _ _ _ _,by intro z hz; simp [nmI] at hz; omega,(by intro z hz; cases hz),HNAME.out⟩ (by show (blkL na++blkL none).Nodup; cases na <;> simp [blkL]),zd b2 vv⟩;have hd:[(⟨na,5,nc,nmI [1,1],4,0,B.name,none,0,0,[]⟩:BI)].map BI.d=[nameD B.name]:=rfl;have HL0:Hid ([(⟨na,5,nc,nmI [1,1],4,0,B.name,none,0,0,[]⟩:BI)].length=1):=hide rfl;clear kY kI oN vv gY hbx hby k2 b2 x0 x1 x2 x3 x4 x5 x6 x7 x8 x9 x10;generalize wz.heap.size=G at *;have HLEN:=hide (d_len hd);have HSM:[nameD B.name].length≤1000:=by simp
  generalize hwa:wy.alloc (Obj.cells #[.int .i64 1,.int .i64 2] 3)=wa;have ba:=zb hwa;have ka:=zk hwa;have st:=st.later ba;obtain ⟨x0,x1,x2,x3,x4,x5,x6,x7,x8,x9,x10⟩:=zi st.box;(go_wp2_with fail);clear hwa x0 x1 x2 x3 x4 x5 x6 x7 x8 x9 x10;refine (zaD (some ⟨G,0,none⟩) 1 [(⟨na,5,nc,nmI [1,1],4,0,B.name,none,0,0,[]⟩:BI)] _ 2 2 [1,2] B.ticks (w.heap.size+1) _ st.own (zK (base:=0) (by rw [← zG]; exact zY intF (base:=0) (l:=[1,2]) ka rfl (Nat.zero_le _) (by simp)) (by intro z hz; simp at hz; omega)) (by omega) (by rw [HLEN.out]; exact HSM) st.base).mono ?_;rintro e v1 ⟨o1,p1,y,rfl,hy,hO,hbz⟩;have st:=st.next hbz hO;have hd:([(⟨na,5,nc,nmI [1,1],4,0,B.name,none,0,0,[]⟩:BI)]++[y]).map BI.d=[nameD B.name,numD [1,2] B.ticks]:=by rw [List.map_append,hd]; rw [List.map_singleton,hy]; rfl
  have HLL:Hid (([(⟨na,5,nc,nmI [1,1],4,0,B.name,none,0,0,[]⟩:BI)]++[y]).length=[(⟨na,5,nc,nmI [1,1],4,0,B.name,none,0,0,[]⟩:BI)].length+1):=hide (by simp);clear hy hO hbz ka HLEN;clear ba HSM;rw [← HLL.out];generalize [(⟨na,5,nc,nmI [1,1],4,0,B.name,none,0,0,[]⟩:BI)]++[y]=l1 at *;clear HLL;have HLEN:=hide (d_len hd);have HSM:[nameD B.name,numD [1,2] B.ticks].length≤1000:=by simp
  generalize hwa:v1.alloc (Obj.cells #[.int .i64 1,.int .i64 3] 3)=wa;have ba:=zb hwa;have ka:=zk hwa;have st:=st.later ba;obtain ⟨x0,x1,x2,x3,x4,x5,x6,x7,x8,x9,x10⟩:=zi st.box;(go_wp2_with fail);clear hwa x0 x1 x2 x3 x4 x5 x6 x7 x8 x9 x10;refine (zaD o1 p1 l1 _ 2 2 [1,3] B.parse (w.heap.size+1) _ st.own (zK (base:=0) (by rw [← zG]; exact zY intF (base:=0) (l:=[1,3]) ka rfl (Nat.zero_le _) (by simp)) (by intro z hz; simp at hz; omega)) (by omega) (by rw [HLEN.out]; exact HSM) st.base).mono ?_;rintro e v2 ⟨o2,p2,y,rfl,hy,hO,hbz⟩;have st:=st.next hbz hO;have hd:(l1++[y]).map BI.d=[nameD B.name,numD [1,2] B.ticks,numD [1,3] B.parse]:=by rw [List.map_append,hd]; rw [List.map_singleton,hy]; rfl
  have HLL:Hid ((l1++[y]).length=l1.length+1):=hide (by simp);clear hy hO hbz ka HLEN;clear ba HSM;rw [← HLL.out];generalize l1++[y]=l2 at *;clear HLL;have HLEN:=hide (d_len hd);have HSM:[nameD B.name,numD [1,2] B.ticks,numD [1,3] B.parse].length≤1000:=by simp
  generalize hwa:v2.alloc (Obj.cells #[.int .i64 1,.int .i64 4] 3)=wa;have ba:=zb hwa;have ka:=zk hwa;have st:=st.later ba;obtain ⟨x0,x1,x2,x3,x4,x5,x6,x7,x8,x9,x10⟩:=zi st.box;(go_wp2_with fail);clear hwa x0 x1 x2 x3 x4 x5 x6 x7 x8 x9 x10;refine (zaD o2 p2 l2 _ 2 2 [1,4] B.word (w.heap.size+1) _ st.own (zK (base:=0) (by rw [← zG]; exact zY intF (base:=0) (l:=[1,4]) ka rfl (Nat.zero_le _) (by simp)) (by intro z hz; simp at hz; omega)) (by omega) (by rw [HLEN.out]; exact HSM) st.base).mono ?_;rintro e v3 ⟨o3,p3,y,rfl,hy,hO,hbz⟩;have st:=st.next hbz hO;have hd:(l2++[y]).map BI.d=[nameD B.name,numD [1,2] B.ticks,numD [1,3] B.parse,numD [1,4] B.word]:=by rw [List.map_append,hd]; rw [List.map_singleton,hy]; rfl
  have HLL:Hid ((l2++[y]).length=l2.length+1):=hide (by simp);clear hy hO hbz ka HLEN;clear ba HSM;rw [← HLL.out];generalize l2++[y]=l3 at *;clear HLL;have HLEN:=hide (d_len hd);have HSM:[nameD B.name,numD [1,2] B.ticks,numD [1,3] B.parse,numD [1,4] B.word].length≤1000:=by simp
  generalize hwa:v3.alloc (Obj.cells #[.int .i64 1,.int .i64 5] 3)=wa;have ba:=zb hwa;have ka:=zk hwa;have st:=st.later ba;obtain ⟨x0,x1,x2,x3,x4,x5,x6,x7,x8,x9,x10⟩:=zi st.box;(go_wp2_with fail);clear hwa x0 x1 x2 x3 x4 x5 x6 x7 x8 x9 x10;refine (zaD o3 p3 l3 _ 2 2 [1,5] B.drops (w.heap.size+1) _ st.own (zK (base:=0) (by rw [← zG]; exact zY intF (base:=0) (l:=[1,5]) ka rfl (Nat.zero_le _) (by simp)) (by intro z hz; simp at hz; omega)) (by omega) (by rw [HLEN.out]; exact HSM) st.base).mono ?_;rintro e v4 ⟨o4,p4,y,rfl,hy,hO,hbz⟩;have st:=st.next hbz hO;have hd:(l3++[y]).map BI.d=[nameD B.name,numD [1,2] B.ticks,numD [1,3] B.parse,numD [1,4] B.word,numD [1,5] B.drops]:=by rw [List.map_append,hd]; rw [List.map_singleton,hy]; rfl
  have HLL:Hid ((l3++[y]).length=l3.length+1):=hide (by simp);clear hy hO hbz ka HLEN;clear ba HSM;rw [← HLL.out];generalize l3++[y]=l4 at *;clear HLL;obtain ⟨x0,x1,x2,x3,x4,x5,x6,x7,x8,x9,x10⟩:=zi st.box;(go_wp2_with fail);clear x0 x1 x2 x3 x4 x5 x6 x7 x8 x9 x10
  go_loopw [3,4,5] (fun v3 vc u5 wr=>∃(k:Nat) (ao:Option Addr) (cap:Nat) (l:List BI),v3=.slice ao l.length cap∧vc=.int .i64 ((k:Int)+1)∧k≤4∧l.map BI.d=zas B++zaa (zaf B) k∧MbSt w wr #[.int .i64 B.id,.string B.name,.slice a n c,.slice fa fn fc,.slice ra rn rc,.slice oa on oc,.int .i64 B.ticks,.int .i64 B.parse,.int .i64 B.word,.int .i64 B.drops,.int .i64 B.vers] ao cap l) (fun _ vc _ _=>6 - (intOf vc).toNat)
  case atStart=>exact ⟨0,o4,p4,l4,rfl,rfl,Nat.zero_le _,by rw [hd]; simp [zaa,zas],st⟩
  case round =>
   clear st hd;obtain ⟨k,ao,cap,l,rfl,rfl,hk,hd,st⟩:=hrel;obtain ⟨x0,x1,x2,x3,x4,x5,x6,x7,x8,x9,x10⟩:=zi st.box;by_cases hk4:k < 4
   ·have hk4':(k:Int)+1≤4:=by omega
    have HDK:=hide hd;(go_wp2_with fail)
    go_loopw [3,5] (fun v3 vp wr=>∃(p:Nat) (ao:Option Addr) (cap:Nat) (l:List BI),v3=.slice ao l.length cap∧vp=.int .i64 (p:Int)∧p≤n∧l.map BI.d=zas B++zaa (zaf B) k++zau (portB B ((k:Int)+1)) B.ports p∧MbSt w wr #[.int .i64 B.id,.string B.name,.slice a n c,.slice fa fn fc,.slice ra rn rc,.slice oa on oc,.int .i64 B.ticks,.int .i64 B.parse,.int .i64 B.word,.int .i64 B.drops,.int .i64 B.vers] ao cap l) (fun _ vp _=>7 - (intOf vp).toNat)
    case atStart=>exact ⟨0,ao,cap,l,rfl,rfl,Nat.zero_le _,by rw [hd]; simp [zau],st⟩
    case round =>
     clear st hd HDK x0 x1 x2 x3 x4 x5 x6 x7 x8 x9 x10;obtain ⟨p,ao,cap,l,rfl,rfl,hp,hd,st⟩:=hrel;obtain ⟨x0,x1,x2,x3,x4,x5,x6,x7,x8,x9,x10⟩:=zi st.box;have ht6:(n:Int)≤6:=by have:=HN.out; have:=HOK.out.p; have:=HOK.out.r; omega
     by_cases hi:p < n
     ·have hi':(p:Int) < (n:Int):=by omega
      obtain ⟨x,hx⟩:∃x,B.ports[p]?=some x:=⟨_,List.getElem?_eq_getElem (by have:=HN.out; omega)⟩;have HX:=hide hx;have HLEN:=hide (d_len hd);have HSM:(zas B++zaa (zaf B) k++zau (portB B ((k:Int)+1)) B.ports p).length≤1000:=by
       have h1:=za1 (g:=zaf B) (m:=6) (fun c=>Nat.le_trans (zax _ _ _) HOK.out.p) k;have h2:=zax (portB B ((k:Int)+1)) B.ports p;rw [List.length_append,List.length_append]
       have:(zas B).length=5:=rfl
       have:=HOK.out.p
       have:=HN.out.1
       omega
      generalize hwa:wr.alloc (Obj.cells #[.int .i64 2,.int .i64 ((k:Int)+1),.int .i64 ((p:Int)+1)] 3)=wa;have ba:=zb hwa;have ka:=zk hwa;have st:=st.later ba;obtain ⟨y0,y1,y2,y3,y4,y5,y6,y7,y8,y9,y10⟩:=zi st.box;(go_wp2_with fail);clear hwa x0 x1 x2 x3 x4 x5 x6 x7 x8 x9 x10 y0 y1 y2 y3 y4 y5 y6 y7 y8 y9 y10 ba;refine (zeW a n c fa fn fc ra rn rc oa on oc B ((k:Int)+1) p x _ (HH.out.below st.below) hx (by have:=HN.out; have:=HOK.out.o; omega)).mono ?_;rintro e wb ⟨rfl,hbb⟩;have ka:=ze ka hbb;have st:=st.later hbb;clear hbb hx;(go_wp2_with fail);refine (zaD ao cap l _ 3 3 [2,(k:Int)+1,(p:Int)+1] _ (w.heap.size+1) _ st.own (zK (base:=0) (by rw [← zG]; exact zY intF (base:=0) (l:=[2,(k:Int)+1,(p:Int)+1]) ka rfl (Nat.zero_le _) (by simp)) (by intro z hz; simp at hz; omega)) (by omega) (by rw [HLEN.out]; exact HSM) st.base).mono ?_;rintro e wd ⟨ao2,cap2,y,rfl,hy,hO,hbz⟩;have st:=st.next hbz hO;have hd:(l++[y]).map BI.d=zas B++zaa (zaf B) k++zau (portB B ((k:Int)+1)) B.ports (p+1):=by rw [List.map_append,hd]; rw [List.map_singleton,hy,zbE HX.out,← List.append_assoc]; rfl
      have HLL:Hid ((l++[y]).length=l.length+1):=hide (by simp);clear hy hO hbz ka HLEN;have HST:=hide st;have HD:=hide hd;clear st hd HSM;go_wp2
      go_roundw
      case rel=>exact ⟨p+1,ao2,cap2,l++[y],by rw [HLL.out],by go_num,by omega,HD.out,HST.out⟩
      case measure=>simp [intOf]; omega
     ·have hi':¬(p:Int) < (n:Int):=by omega
      have hpn:p=n:=by omega
      have HD:Hid (l.map BI.d=zas B++zaa (zaf B) (k+1)):=hide (by
       rw [hd,hpn,show zaa (zaf B) (k+1)=zaa (zaf B) k++zaf B ((k:Int)+1) from rfl,show zaf B ((k:Int)+1)=zau (portB B ((k:Int)+1)) B.ports n by rw [HN.out.1]; rfl,← List.append_assoc])
      have HST:=hide st;clear st hd hpn;go_wp2
      go_roundw
      case rel=>exact ⟨k+1,ao,cap,l,rfl,by go_num,by omega,HD.out,HST.out⟩
      case measure=>simp [intOf]; omega
   ·have hk4':¬(k:Int)+1≤4:=by omega
    have hke:k=4:=by omega
    subst hke;(go_wp2_with fail)
    go_loopw [3,6,7] (fun v3 vc u7 wr=>∃(k:Nat) (ao:Option Addr) (cap:Nat) (l:List BI),v3=.slice ao l.length cap∧vc=.int .i64 ((k:Int)+1)∧k≤3∧l.map BI.d=zas B++zaa (zaf B) 4++zaa (zaG B) k∧MbSt w wr #[.int .i64 B.id,.string B.name,.slice a n c,.slice fa fn fc,.slice ra rn rc,.slice oa on oc,.int .i64 B.ticks,.int .i64 B.parse,.int .i64 B.word,.int .i64 B.drops,.int .i64 B.vers] ao cap l) (fun _ vc _ _=>5 - (intOf vc).toNat)
    case atStart=>exact ⟨0,ao,cap,l,rfl,rfl,Nat.zero_le _,by rw [hd]; simp [zaa],st⟩
    case round =>
     clear st hd;obtain ⟨k,ao,cap,l,rfl,rfl,hk,hd,st⟩:=hrel;obtain ⟨x0,x1,x2,x3,x4,x5,x6,x7,x8,x9,x10⟩:=zi st.box;by_cases hk4:k < 3
     ·have hk4':(k:Int)+1≤3:=by omega
      have HDK:=hide hd;(go_wp2_with fail)
      go_loopw [3,7] (fun v3 vp wr=>∃(i:Nat) (ao:Option Addr) (cap:Nat) (l:List BI),v3=.slice ao l.length cap∧vp=.int .i64 (i:Int)∧i≤rn∧l.map BI.d=zas B++zaa (zaf B) 4++zaa (zaG B) k++zau (rowB ((k:Int)+1)) B.v.rows i∧MbSt w wr #[.int .i64 B.id,.string B.name,.slice a n c,.slice fa fn fc,.slice ra rn rc,.slice oa on oc,.int .i64 B.ticks,.int .i64 B.parse,.int .i64 B.word,.int .i64 B.drops,.int .i64 B.vers] ao cap l) (fun _ vp _=>7 - (intOf vp).toNat)
      case atStart=>exact ⟨0,ao,cap,l,rfl,rfl,Nat.zero_le _,by rw [hd]; simp [zau],st⟩
      case round =>
       clear st hd HDK x0 x1 x2 x3 x4 x5 x6 x7 x8 x9 x10;obtain ⟨i,ao,cap,l,rfl,rfl,hp,hd,st⟩:=hrel;obtain ⟨x0,x1,x2,x3,x4,x5,x6,x7,x8,x9,x10⟩:=zi st.box;have ht6:(rn:Int)≤6:=by have:=HN.out; have:=HOK.out.p; have:=HOK.out.r; omega
       by_cases hi:i < rn
       ·have hi':(i:Int) < (rn:Int):=by omega
        obtain ⟨r,rb,ro,hx,hra,r0,r1,r2⟩:=zaJ (HH.out.v.rows.below st.below) i hi;have hrb:rb < w.heap.size:=by
         obtain ⟨_,_,_,hx2,hra2,q0,-⟩:=zaJ HH.out.v.rows i hi;rw [hra] at hra2;cases hra2;exact zp q0
        have HX:=hide hx;have hri:=HOK.out.ri r (List.mem_of_getElem? hx);rw [hra] at x4;have i1:(0:Int)≤(i:Int):=by omega
        have i2:(i:Int) < (rn:Int):=by omega
        have HSM:(zas B++zaa (zaf B) 4++zaa (zaG B) k++zau (rowB ((k:Int)+1)) B.v.rows i).length≤1000:=by
         have h1:=za1 (g:=zaf B) (m:=6) (fun c=>Nat.le_trans (zax _ _ _) HOK.out.p) 4;have h2:=za1 (g:=zaG B) (m:=6) (fun c=>Nat.le_trans (zax _ _ _) HOK.out.r) k;have h3:=zax (rowB ((k:Int)+1)) B.v.rows i;simp only [List.length_append]
         have:(zas B).length=5:=rfl
         have q1:=HOK.out.r;have q2:=HN.out.2.1;omega
        have hbase:=st.base;have HS:Hid (∀W,Below (w.heap.size+1) wr W→zcc W w.heap.size 4 (.slice (some ⟨rb,ro,none⟩) rn rc)∧(zcc W rb (ro+i*3) (.int .i64 r.i)∧zcc W rb (ro+i*3+1) (.int .i64 r.m)∧zcc W rb (ro+i*3+2) (.int .i64 r.b))):=hide (fun W hW=>⟨(hW.cell (show w.heap.size < w.heap.size+1 from Nat.lt_succ_self _)).trans x4,(hW.cell (show rb < w.heap.size+1 from Nat.lt_succ_of_lt hrb)).trans r0,(hW.cell (show rb < w.heap.size+1 from Nat.lt_succ_of_lt hrb)).trans r1,(hW.cell (show rb < w.heap.size+1 from Nat.lt_succ_of_lt hrb)).trans r2⟩);have vv:Below wr.heap.size wr wr.drew:=zw (Below.refl _ _);have hkk:k < 3:=by omega
        clear hx hra;(go_upto_region 21 with fail);clear x0 x1 x2 x3 x4 x5 x6 x7 x8 x9 x10 r0 r1 r2;refine wp_region_held_drew (S:=(fun W=>zcc W w.heap.size 4 (.slice (some ⟨rb,ro,none⟩) rn rc)∧(zcc W rb (ro+i*3) (.int .i64 r.i)∧zcc W rb (ro+i*3+1) (.int .i64 r.m)∧zcc W rb (ro+i*3+2) (.int .i64 r.b)))) (by kernel_rfl) ((by first | exact HS.out _ vb | exact HS.out _ (vv.mono hbase))) (fun hHeld => ?_);refine kK 0 ⟨some 73,.move (.tmp 3),39,"l17_mib.go:54",#[],none⟩ ?_;refine kK 1 ⟨some 74,.move (.tmp 6),3,"l17_mib.go:54",#[],none⟩ ?_;refine kK 2 ⟨some 75,.fieldAddr 31 (.tmp 1) 4,0,"l17_mib.go:54",#[],none⟩ ?_;refine kK 3 ⟨some 76,.fieldAddr 29 (.tmp 75) 0,0,"l17_mib.go:54",#[⟨2,.data⟩],none⟩ ?_;refine kK 4 ⟨some 77,.load 26 (.tmp 76),26,"l17_mib.go:54",#[⟨3,.data⟩],none⟩ ?_;refine kK 5 ⟨some 78,.move (.tmp 7),3,"l17_mib.go:54",#[],none⟩ ?_;refine kK 6 ⟨some 79,.indexAddr 26 (.tmp 77) (.tmp 78),0,"l17_mib.go:54",#[⟨4,.data⟩,⟨5,.data⟩],none⟩ ?_;refine kK 7 ⟨some 80,.fieldAddr 82 (.tmp 79) 0,0,"l17_mib.go:54",#[⟨6,.data⟩],none⟩ ?_;refine kK 8 ⟨some 81,.load 3 (.tmp 80),3,"l17_mib.go:54",#[⟨7,.data⟩],none⟩ ?_;refine kK 10 ⟨some 83,.fieldAddr 31 (.tmp 1) 4,0,"l17_mib.go:54",#[],none⟩ ?_;refine kK 11 ⟨some 84,.fieldAddr 29 (.tmp 83) 0,0,"l17_mib.go:54",#[⟨10,.data⟩],none⟩ ?_;refine kK 12 ⟨some 85,.load 26 (.tmp 84),26,"l17_mib.go:54",#[⟨11,.data⟩],none⟩ ?_;refine kK 13 ⟨some 86,.move (.tmp 7),3,"l17_mib.go:54",#[],none⟩ ?_;refine kK 14 ⟨some 87,.indexAddr 26 (.tmp 85) (.tmp 86),0,"l17_mib.go:54",#[⟨12,.data⟩,⟨13,.data⟩],none⟩ ?_;refine kK 15 ⟨some 88,.load 82 (.tmp 87),82,"l17_mib.go:54",#[⟨14,.data⟩],none⟩ ?_;refine kK 16 ⟨some 89,.move (.tmp 6),3,"l17_mib.go:54",#[],none⟩ ?_;refine tR [9,17] ?_;refine AllReadyH.cons (o:=q132) rfl (fun K hK => ?_) ?_
        ·go_simp
         first
         | refine zaq (K:=K _) (fun wa ka hbx => ?_)
         | refine zal (K:=K _) (fun wa ka hbx => ?_)
         have vv:=zd vv hbx;clear hbx;refine kO hK ((by first | exact HS.out _ vb | exact HS.out _ (vv.mono hbase))) fun hHeld => ?_
         clear hK K;refine kR 17 q133 (fun K hK => ?_);go_simp;refine (zdp r ((k:Int)+1) _).mono ?_;rintro e wb ⟨rfl,hbb⟩;(try have ka:=ze ka hbb);have vv:=zd vv hbb;clear hbb;(go_wp2_with fail);refine kO hK ((by first | exact HS.out _ vb | exact HS.out _ (vv.mono hbase))) fun hHeld => ?_
         clear hK K;refine kR 18 q134 (fun K hK => ?_);go_simp;have st:=st.later vv;have HLEN:=hide (d_len hd);refine (zaD ao cap l _ 3 3 [3,(k:Int)+1,r.i] _ (w.heap.size+1) _ st.own (zK (base:=0) (by rw [← zG]; exact zY intF (base:=0) (l:=[3,(k:Int)+1,r.i]) ka rfl (Nat.zero_le _) (by simp)) (by intro z hz; simp at hz; omega)) (by omega) (by rw [HLEN.out]; exact HSM) st.base).mono ?_;rintro e wd ⟨ao2,cap2,y,rfl,hy,hO,hbz⟩;have st:=st.next hbz hO;have vb:=(vv.mono hbase).trans hbz;have hd:(l++[y]).map BI.d=zas B++zaa (zaf B) 4++zaa (zaG B) k++zau (rowB ((k:Int)+1)) B.v.rows (i+1):=by rw [List.map_append,hd,List.map_singleton,hy,zbE HX.out,← List.append_assoc]; rfl
         have HLL:Hid ((l++[y]).length=l.length+1):=hide (by simp);clear hy hO hbz HLEN;(go_wp2_with fail);refine kO hK ((by first | exact HS.out _ vb | exact HS.out _ (vv.mono hbase))) fun hHeld => ?_
         clear hK K;refine kK 19 q135 ?_;refine wpAnyH_done (by kernel_rfl) ?_ _;have HST:=hide st;have HD:=hide hd;clear hHeld st hd vv vb;go_wp2
         go_roundw
         case rel=>exact ⟨i+1,ao2,cap2,l++[y],by rw [HLL.out],by go_num,by omega,HD.out,HST.out⟩
         case measure=>simp [intOf]; omega
        refine AllReadyH.cons (o:=q133) rfl (fun K hK => ?_) ?_
        ·go_simp;refine (zdp r ((k:Int)+1) _).mono ?_;rintro e wb ⟨rfl,hbb⟩;(try have ka:=ze ka hbb);have vv:=zd vv hbb;clear hbb;(go_wp2_with fail);refine kO hK ((by first | exact HS.out _ vb | exact HS.out _ (vv.mono hbase))) fun hHeld => ?_
         clear hK K;refine kR 9 q132 (fun K hK => ?_);go_simp
         first
         | refine zaq (K:=K _) (fun wa ka hbx => ?_)
         | refine zal (K:=K _) (fun wa ka hbx => ?_)
         have vv:=zd vv hbx;clear hbx;refine kO hK ((by first | exact HS.out _ vb | exact HS.out _ (vv.mono hbase))) fun hHeld => ?_
         clear hK K;refine kR 18 q134 (fun K hK => ?_);go_simp;have st:=st.later vv;have HLEN:=hide (d_len hd);refine (zaD ao cap l _ 3 3 [3,(k:Int)+1,r.i] _ (w.heap.size+1) _ st.own (zK (base:=0) (by rw [← zG]; exact zY intF (base:=0) (l:=[3,(k:Int)+1,r.i]) ka rfl (Nat.zero_le _) (by simp)) (by intro z hz; simp at hz; omega)) (by omega) (by rw [HLEN.out]; exact HSM) st.base).mono ?_;rintro e wd ⟨ao2,cap2,y,rfl,hy,hO,hbz⟩;have st:=st.next hbz hO;have vb:=(vv.mono hbase).trans hbz;have hd:(l++[y]).map BI.d=zas B++zaa (zaf B) 4++zaa (zaG B) k++zau (rowB ((k:Int)+1)) B.v.rows (i+1):=by rw [List.map_append,hd,List.map_singleton,hy,zbE HX.out,← List.append_assoc]; rfl
         have HLL:Hid ((l++[y]).length=l.length+1):=hide (by simp);clear hy hO hbz HLEN;(go_wp2_with fail);refine kO hK ((by first | exact HS.out _ vb | exact HS.out _ (vv.mono hbase))) fun hHeld => ?_
         clear hK K;refine kK 19 q135 ?_;refine wpAnyH_done (by kernel_rfl) ?_ _;have HST:=hide st;have HD:=hide hd;clear hHeld st hd vv vb;go_wp2
         go_roundw
         case rel=>exact ⟨i+1,ao2,cap2,l++[y],by rw [HLL.out],by go_num,by omega,HD.out,HST.out⟩
         case measure=>simp [intOf]; omega
        exact AllReadyH.nil
       ·have hi':¬(i:Int) < (rn:Int):=by omega
        have hpn:i=rn:=by omega
        have HD:Hid (l.map BI.d=zas B++zaa (zaf B) 4++zaa (zaG B) (k+1)):=hide (by
         rw [hd,hpn,show zaa (zaG B) (k+1)=zaa (zaG B) k++zaG B ((k:Int)+1) from rfl,show zaG B ((k:Int)+1)=zau (rowB ((k:Int)+1)) B.v.rows rn by rw [HN.out.2.1]; rfl,← List.append_assoc])
        have HST:=hide st;clear st hd hpn;go_wp2
        go_roundw
        case rel=>exact ⟨k+1,ao,cap,l,rfl,by go_num,by omega,HD.out,HST.out⟩
        case measure=>simp [intOf]; omega
     ·have hk4':¬(k:Int)+1≤3:=by omega
      have hke:k=3:=by omega
      subst hke;(go_wp2_with fail)
      go_loopw [3,8] (fun v3 vi wr=>∃(i:Nat) (ao:Option Addr) (cap:Nat) (l:List BI),v3=.slice ao l.length cap∧vi=.int .i64 (i:Int)∧i≤fn∧l.map BI.d=zas B++zaa (zaf B) 4++zaa (zaG B) 3++zau entB B.f i∧MbSt w wr #[.int .i64 B.id,.string B.name,.slice a n c,.slice fa fn fc,.slice ra rn rc,.slice oa on oc,.int .i64 B.ticks,.int .i64 B.parse,.int .i64 B.word,.int .i64 B.drops,.int .i64 B.vers] ao cap l) (fun _ vi _=>13 - (intOf vi).toNat)
      case atStart=>exact ⟨0,ao,cap,l,rfl,rfl,Nat.zero_le _,by rw [hd]; simp [zau],st⟩
      case round =>
       clear st hd x0 x1 x2 x3 x4 x5 x6 x7 x8 x9 x10;obtain ⟨i,ao,cap,l,rfl,rfl,hp,hd,st⟩:=hrel;obtain ⟨x0,x1,x2,x3,x4,x5,x6,x7,x8,x9,x10⟩:=zi st.box;have ht6:(fn:Int)≤12:=by have:=HN.out; have:=HOK.out.f; omega
       by_cases hi:i < fn
       ·have hi':(i:Int) < (fn:Int):=by omega
        obtain ⟨r,rb,ro,hx,hra,r0,r1,r2,-⟩:=zaZ (HH.out.f.below st.below) i hi;have hrb:rb < w.heap.size:=by
         obtain ⟨_,_,_,hx2,hra2,q0,-⟩:=zaZ HH.out.f i hi;rw [hra] at hra2;cases hra2;exact zp q0
        have HX:=hide hx;have hri:=HOK.out.fi r (List.mem_of_getElem? hx);have hwp:IntKind.i64.wrap (r.p+1)=r.p+1:=by rw [IntKind.wrap_i64]; omega
        rw [hra] at x3;have i1:(0:Int)≤(i:Int):=by omega
        have i2:(i:Int) < (fn:Int):=by omega
        have HSM:(zas B++zaa (zaf B) 4++zaa (zaG B) 3++zau entB B.f i).length≤1000:=by
         have h1:=za1 (g:=zaf B) (m:=6) (fun c=>Nat.le_trans (zax _ _ _) HOK.out.p) 4;have h2:=za1 (g:=zaG B) (m:=6) (fun c=>Nat.le_trans (zax _ _ _) HOK.out.r) 3;have h3:=zax entB B.f i;simp only [List.length_append]
         have:(zas B).length=5:=rfl
         have q1:=HOK.out.f;have q2:=HN.out.2.2.1;omega
        have hbase:=st.base;have HS:Hid (∀W,Below (w.heap.size+1) wr W→zcc W w.heap.size 3 (.slice (some ⟨rb,ro,none⟩) fn fc)∧(zcc W rb (ro+i*5) (.int .i64 r.t)∧zcc W rb (ro+i*5+1) (.int .i64 r.m)∧zcc W rb (ro+i*5+2) (.int .i64 r.p))):=hide (fun W hW=>⟨(hW.cell (show w.heap.size < w.heap.size+1 from Nat.lt_succ_self _)).trans x3,(hW.cell (show rb < w.heap.size+1 from Nat.lt_succ_of_lt hrb)).trans r0,(hW.cell (show rb < w.heap.size+1 from Nat.lt_succ_of_lt hrb)).trans r1,(hW.cell (show rb < w.heap.size+1 from Nat.lt_succ_of_lt hrb)).trans r2⟩);have vv:Below wr.heap.size wr wr.drew:=zw (Below.refl _ _);clear hx hra;(go_upto_region 25 with fail);clear x0 x1 x2 x3 x4 x5 x6 x7 x8 x9 x10 r0 r1 r2;refine wp_region_held_drew (S:=(fun W=>zcc W w.heap.size 3 (.slice (some ⟨rb,ro,none⟩) fn fc)∧(zcc W rb (ro+i*5) (.int .i64 r.t)∧zcc W rb (ro+i*5+1) (.int .i64 r.m)∧zcc W rb (ro+i*5+2) (.int .i64 r.p)))) (by kernel_rfl) ((by first | exact HS.out _ vb | exact HS.out _ (vv.mono hbase))) (fun hHeld => ?_);refine kK 0 ⟨some 99,.move (.tmp 3),39,"l17_mib.go:58",#[],none⟩ ?_;refine kK 1 ⟨some 100,.fieldAddr 31 (.tmp 1) 3,0,"l17_mib.go:58",#[],none⟩ ?_;refine kK 2 ⟨some 101,.load 25 (.tmp 100),25,"l17_mib.go:58",#[⟨1,.data⟩],none⟩ ?_;refine kK 3 ⟨some 102,.move (.tmp 8),3,"l17_mib.go:58",#[],none⟩ ?_;refine kK 4 ⟨some 103,.indexAddr 25 (.tmp 101) (.tmp 102),0,"l17_mib.go:58",#[⟨2,.data⟩,⟨3,.data⟩],none⟩ ?_;refine kK 5 ⟨some 104,.fieldAddr 85 (.tmp 103) 0,0,"l17_mib.go:58",#[⟨4,.data⟩],none⟩ ?_;refine kK 6 ⟨some 105,.load 3 (.tmp 104),3,"l17_mib.go:58",#[⟨5,.data⟩],none⟩ ?_;refine kK 7 ⟨some 106,.fieldAddr 31 (.tmp 1) 3,0,"l17_mib.go:58",#[],none⟩ ?_;refine kK 8 ⟨some 107,.load 25 (.tmp 106),25,"l17_mib.go:58",#[⟨7,.data⟩],none⟩ ?_;refine kK 9 ⟨some 108,.move (.tmp 8),3,"l17_mib.go:58",#[],none⟩ ?_;refine kK 10 ⟨some 109,.indexAddr 25 (.tmp 107) (.tmp 108),0,"l17_mib.go:58",#[⟨8,.data⟩,⟨9,.data⟩],none⟩ ?_;refine kK 11 ⟨some 110,.fieldAddr 85 (.tmp 109) 1,0,"l17_mib.go:58",#[⟨10,.data⟩],none⟩ ?_;refine kK 12 ⟨some 111,.load 3 (.tmp 110),3,"l17_mib.go:58",#[⟨11,.data⟩],none⟩ ?_;refine kK 14 ⟨some 113,.fieldAddr 31 (.tmp 1) 3,0,"l17_mib.go:58",#[],none⟩ ?_;refine kK 15 ⟨some 114,.load 25 (.tmp 113),25,"l17_mib.go:58",#[⟨14,.data⟩],none⟩ ?_;refine kK 16 ⟨some 115,.move (.tmp 8),3,"l17_mib.go:58",#[],none⟩ ?_;refine kK 17 ⟨some 116,.indexAddr 25 (.tmp 114) (.tmp 115),0,"l17_mib.go:58",#[⟨15,.data⟩,⟨16,.data⟩],none⟩ ?_;refine kK 18 ⟨some 117,.fieldAddr 85 (.tmp 116) 2,0,"l17_mib.go:58",#[⟨17,.data⟩],none⟩ ?_;refine kK 19 ⟨some 118,.load 3 (.tmp 117),3,"l17_mib.go:58",#[⟨18,.data⟩],none⟩ ?_;refine kK 20 ⟨some 119,.binOp .add 3 (.tmp 118) (.const (.int .i64 1)) 3,3,"l17_mib.go:58",#[⟨19,.data⟩],none⟩ ?_;refine kR 13 ⟨some 112,.buildSlice 27 4 #[(0,.const (.int .i64 4)),(1,.const (.int .i64 1)),(2,.tmp 105),(3,.tmp 111)],27,"l17_mib.go:58",#[⟨6,.data⟩,⟨12,.data⟩],none⟩ (fun K hK => ?_);go_simp
        first
        | refine zaq (K:=K _) (fun wa ka hbx => ?_)
        | refine zal (K:=K _) (fun wa ka hbx => ?_)
        have vv:=zd vv hbx;clear hbx;refine kO hK ((by first | exact HS.out _ vb | exact HS.out _ (vv.mono hbase))) fun hHeld => ?_
        clear hK K;refine kR 21 ⟨some 120,.call ⟨.value (.func 47),#[.tmp 99,.tmp 112,.tmp 119],#[39,27,3]⟩,39,"l17_mib.go:58",#[⟨0,.data⟩,⟨13,.data⟩,⟨20,.data⟩],none⟩ (fun K hK => ?_);go_simp;have st:=st.later vv;have HLEN:=hide (d_len hd);refine (zaD ao cap l _ 4 4 [4,1,r.t,r.m] _ (w.heap.size+1) _ st.own (zK (base:=0) (by rw [← zG]; exact zY intF (base:=0) (l:=[4,1,r.t,r.m]) ka rfl (Nat.zero_le _) (by simp)) (by intro z hz; simp at hz; omega)) (by omega) (by rw [HLEN.out]; exact HSM) st.base).mono ?_;rintro e wd ⟨ao2,cap2,y,rfl,hy,hO,hbz⟩;have st:=st.next hbz hO;have vb:=(vv.mono hbase).trans hbz;have hd:(l++[y]).map BI.d=zas B++zaa (zaf B) 4++zaa (zaG B) 3++zau entB B.f (i+1):=by rw [List.map_append,hd,List.map_singleton,hy,zbE HX.out,← List.append_assoc]; rfl
        have HLL:Hid ((l++[y]).length=l.length+1):=hide (by simp);clear hy hO hbz HLEN;(go_wp2_with fail);refine kO hK ((by first | exact HS.out _ vb | exact HS.out _ (vv.mono hbase))) fun hHeld => ?_
        clear hK K;refine kK 22 ⟨some 3,.assign (.tmp 120),39,"l17_mib.go:58",#[⟨21,.data⟩,⟨21,.chain⟩,⟨0,.phase⟩,⟨1,.phase⟩,⟨2,.phase⟩,⟨3,.phase⟩,⟨4,.phase⟩,⟨5,.phase⟩,⟨6,.phase⟩,⟨7,.phase⟩,⟨8,.phase⟩,⟨9,.phase⟩,⟨10,.phase⟩,⟨11,.phase⟩,⟨12,.phase⟩,⟨13,.phase⟩,⟨14,.phase⟩,⟨15,.phase⟩,⟨16,.phase⟩,⟨17,.phase⟩,⟨18,.phase⟩,⟨19,.phase⟩,⟨20,.phase⟩,⟨21,.phase⟩],none⟩ ?_;refine wpAnyH_done (by kernel_rfl) ?_ _;have HST:=hide st;have HD:=hide hd;clear hHeld st hd vv vb;go_wp2
        go_roundw
        case rel=>exact ⟨i+1,ao2,cap2,l++[y],by rw [HLL.out],by go_num,by omega,HD.out,HST.out⟩
        case measure=>simp [intOf]; omega
       ·have hi':¬(i:Int) < (fn:Int):=by omega
        have hin:i=fn:=by omega
        have HD:Hid (l.map BI.d=zF B):=hide (by
         rw [HM.out,hd,hin];unfold zc0;rw [show zd0 B=zau entB B.f fn by rw [HN.out.2.2.1]; rfl])
        have HO:=hide (st.own.lt (Nat.le_succ _));have HB:=hide st.below;clear st hd hin;go_wp2;go_ret;exact ⟨ao,cap,l,rfl,HD.out,HO.out,HB.out⟩

end

section
open Go.RowKit

structure Tails (w:World) (base:Nat) (ao:Option Addr) (cap:Nat) (l:List TL):Prop where
 row:w.ownsRow base 27 1 (.slice ao l.length cap) l.length (tlF.all l)
 item:∀t∈l,w.ownsRow base 3 1 (.slice t.a t.n t.c) t.n (cI t.z)∧I64s t.z∧t.n≤2

section
variable {w w' w1:World} {base:Nat} {ao ao':Option Addr} {cap cap':Nat} {l:List TL} {y:TL}
theorem Tails.below (h:Tails w base ao cap l) (hb:Below w.heap.size w w'):Tails w' base ao cap l:=⟨zm h.row hb,fun t ht=>⟨zar (h.item t ht).1 hb,(h.item t ht).2⟩⟩
theorem Tails.push (h:Tails w base ao cap l) (hb:Below w.heap.size w w1) (hy:w1.ownsRow w.heap.size 3 1 (.slice y.a y.n y.c) y.n (cI y.z)) (hz:I64s y.z) (hn:y.n≤2) (hbs:base≤w.heap.size)
  (hg:w1.grownBy w' (Value.slice ao l.length cap).ownBlock) (hr:w'.ownsRow base 27 1 (.slice ao' (l++[y]).length cap') (l++[y]).length (tlF.all (l++[y]))):Tails w' base ao' cap' (l++[y]):=by
 have hne:(3:Nat)≠27:=by decide
 have h1:=h.below hb;refine ⟨hr,fun t ht => ?_⟩;rcases List.mem_append.1 ht with ht | ht
 ·exact ⟨zac (h1.item t ht).1 h1.row hne hg,(h1.item t ht).2⟩
 ·rw [List.mem_singleton.1 ht];exact ⟨zaU (zac hy h1.row hne hg) hbs,hz,hn⟩
theorem zgN {W:World} {X:Nat} {c0 c1 c2:Value} {T:TypeId} {K:World→Prop} (hk:W.heap[X]?=some (.cells #[c0,c1,c2] T)) (v0 v1 v2:Value) (h:∀wq,wq.heap[X]?=some (.cells #[v0,v1,v2] T)→W.grownBy wq (some X)→K wq):K (((W.setCell ⟨X,0,none⟩ v0).setCell ⟨X,1,none⟩ v1).setCell ⟨X,2,none⟩ v2):=by
 refine h _ ?_ (zE (zE (zl 0 _) (zl 1 _)) (zl 2 _));have h2:=zu (j:=2) (zu (j:=1) (zu (j:=0) hk v0) v1) v2
 simpa using h2
theorem zeb (w:World) (base:Nat):Tails w base none 0 []:=⟨World.ownsRow_nil _ _ _ _,(by intro t ht; cases ht)⟩
theorem Tails.reads (h:Tails w base ao cap l):GRow tlF w ao l.length cap l∧∀t∈l,IRow w t.a t.n t.c t.z∧t.n≤2 :=
 ⟨zan (F:=tlF) h.row,fun t ht=>⟨zK (h.item t ht).1 (h.item t ht).2.1,(h.item t ht).2.2⟩⟩
end

theorem zb0 {w w':World} {cl:List CF} {tn:Nat} {G:Nat→Nat→BD} {ao:Option Addr} {cap:Nat} {l:List TH} (st:CoSt w w' cl tn G ao cap l)
  (H:∀(i:Nat) (c:CF),cl[i]?=some c→(∀args w,(callFunc c.f args).run Tryz.prog w=.ok (.enter c.f args) w)∧∀j,j < tn→∀w2,Below w'.heap.size w' w2→Tells w2 c.f c.caps j (G i j).K (G i j).N (G i j).S)
  (Hz:∀i j,(G i j).z=[]∧(G i j).S.size≤maxLen) {base:Nat} (hbs:base≤w.heap.size):Things w' base ao cap l:=by
 refine ⟨zan (F:=thF) st.row,st.names.lt hbs, ?_, ?_⟩
 ·intro x hx w2 hw2;obtain ⟨i,j,c,hc,hj,hd,kw,kp⟩:=st.box x hx;obtain ⟨he,ht⟩:=H i c hc;have kw2:=ze kw hw2;have kp2:=ze kp hw2;rw [hd];exact zhU c.f c.caps j _ _ _ x.wb x.pb w2 (fun w3 hw3=>ht j hj w3 (zd hw2 hw3)) (by simp [World.cell?,kw2]) (by simp [World.cell?,kp2]) he
 ·intro x hx;obtain ⟨i,j,c,-,-,hd,-,-⟩:=st.box x hx;have h1:=(st.names.item x hx).1
  simp [cI] at h1
  rw [hd] at h1 ⊢;exact ⟨(Hz i j).1,(Hz i j).2,h1.symm⟩

def ownG (B:BR) (i _j:Nat):BD:=match i with
 | 0=>nameD B.name
 | 1=>numD [1,2] B.ticks
 | 2=>numD [1,3] B.parse
 | 3=>numD [1,4] B.word
 | _=>numD [1,(i:Int)+1] B.drops
def portG (B:BR) (i j:Nat):BD:=match B.ports[j]? with
 | some x=>portB B ((i:Int)+1) j x
 | none=>numD [2,(i:Int)+1,(j:Int)+1] 0
def rowG (B:BR) (i j:Nat):BD:=match B.v.rows[j]? with
 | some x=>rowB ((i:Int)+1) j x
 | none=>numD [] 0
def entG (B:BR) (i j:Nat):BD:=match B.f[j]? with
 | some x=>⟨nmI [4,(i:Int)+1,x.t,x.m],2,x.p+1,⟨#[]⟩,[]⟩
 | none=>numD [] 0

theorem zjp (B:BR):zbJ (ownG B) 1 5=zas B:=rfl
theorem zhC (B:BR):zbJ (portG B) B.ports.length 4=zaa (zaf B) 4 :=
 zdM (fun i=>zdD (f:=portB B ((i:Int)+1)) (fun j x hx=>by unfold portG; rw [hx]) _ (Nat.le_refl _)) 4
theorem zix (B:BR):zbJ (rowG B) B.v.rows.length 3=zaa (zaG B) 3 :=
 zdM (fun i=>zdD (f:=rowB ((i:Int)+1)) (fun j x hx=>by unfold rowG; rw [hx]) _ (Nat.le_refl _)) 3
theorem zh3 (B:BR):zbJ (entG B) B.f.length 1=zd0 B:=by
 show []++rowTo (entG B 0) B.f.length=zau entB B.f B.f.length
 rw [List.nil_append];exact zdD (f:=entB) (fun j x hx=>by unfold entG; rw [hx]; rfl) _ (Nat.le_refl _)

theorem zfb (a:Option Addr) (n c:Nat) (fa:Option Addr) (fn fc:Nat) (ra:Option Addr) (rn rc:Nat) (oa:Option Addr) (on oc:Nat) (B:BR) (w:World) (h:BrRow w a n c fa fn fc ra rn rc oa on oc B) (hnm:B.name.size≤maxLen) :
  Calls Tryz.prog 76 #[.agg #[.int .i64 B.id,.string B.name,.slice a n c,.slice fa fn fc,.slice ra rn rc,.slice oa on oc,.int .i64 B.ticks,.int .i64 B.parse,.int .i64 B.word,.int .i64 B.drops,.int .i64 B.vers]] w fun e w'=>∃(ao:Option Addr) (cap:Nat) (l:List TH),e=.returned (.slice ao l.length cap)∧l.map TH.d=zas B∧Things w' w.heap.size ao cap l∧Below w.heap.size w w':=by
 generalize hw1:w.alloc (Obj.cells #[.int .i64 B.id,.string B.name,.slice a n c,.slice fa fn fc,.slice ra rn rc,.slice oa on oc,.int .i64 B.ticks,.int .i64 B.parse,.int .i64 B.word,.int .i64 B.drops,.int .i64 B.vers] 31)=w1;have b1:=zb hw1;have k1:=zk hw1;have HNM:=hide hnm;generalize hwt:w1.alloc (Obj.cells #[.slice none 0 0] 27)=wt;have bt:=zb hwt;have kt:=zk hwt;have b1t:=zd b1 bt;have hrow:=zY tlF (base:=w.heap.size) (l:=[⟨none,0,0,[]⟩]) kt rfl b1.size (by simp);have tls:Tails wt w.heap.size (some ⟨w1.heap.size,0,none⟩) 1 [⟨none,0,0,[]⟩]:=⟨hrow,fun t ht=>by rw [List.mem_singleton.1 ht]; exact ⟨World.ownsRow_nil _ _ _ _,(by intro z hz; cases hz),Nat.zero_le _⟩⟩;generalize hwc:wt.alloc (Obj.cells #[.func (.func 115) #[] #[.pointer (some ⟨w.heap.size,0,none⟩)],.func (.func 116) #[] #[.pointer (some ⟨w.heap.size,0,none⟩)],.func (.func 118) #[] #[.pointer (some ⟨w.heap.size,0,none⟩)],.func (.func 119) #[] #[.pointer (some ⟨w.heap.size,0,none⟩)],.func (.func 120) #[] #[.pointer (some ⟨w.heap.size,0,none⟩)]] 122)=wc;have bc:=zb hwc;have kc:=zk hwc;have hcl:=zan (F:=clF) (zY clF (base:=0) (l:=[⟨115,#[.pointer (some ⟨w.heap.size,0,none⟩)]⟩,⟨116,#[.pointer (some ⟨w.heap.size,0,none⟩)]⟩,⟨118,#[.pointer (some ⟨w.heap.size,0,none⟩)]⟩,⟨119,#[.pointer (some ⟨w.heap.size,0,none⟩)]⟩,⟨120,#[.pointer (some ⟨w.heap.size,0,none⟩)]⟩]) kc rfl (Nat.zero_le _) (by simp));have HBS:Hid (w.heap.size≤wc.heap.size):=hide (zd b1t bc).size;have HBC:=hide (zd b1t bc);have HKC:=hide (ze (ze k1 bt) bc);have HH:=hide h;have tlr:=(tls.below bc).reads;clear k1 kt kc b1 bt hrow tls b1t bc;go_enter Tryz.func76,Tryz.ntmps76;go_wp2_with fail
 refine (zaX 1 _ 1 1 [⟨none,0,0,[]⟩] _ 5 [⟨115,#[.pointer (some ⟨w.heap.size,0,none⟩)]⟩,⟨116,#[.pointer (some ⟨w.heap.size,0,none⟩)]⟩,⟨118,#[.pointer (some ⟨w.heap.size,0,none⟩)]⟩,⟨119,#[.pointer (some ⟨w.heap.size,0,none⟩)]⟩,⟨120,#[.pointer (some ⟨w.heap.size,0,none⟩)]⟩] (ownG B) _ tlr.1 tlr.2 (by omega) hcl (by omega) (by omega) ?_).mono ?_
 ·intro i j t ht;have htz:t.z=[]:=by
   cases j with
   | zero=>simp at ht; rw [← ht]
   | succ j=>simp at ht
  rw [htz];unfold ownG
  split <;> rfl
 rintro e w3 ⟨ao,cap,l,rfl,hd,st⟩;have HB:=hide (zd HBC.out st.below);have KB:=hide (ze HKC.out st.below);have HT:Hid (Things w3 w.heap.size ao cap l):=hide (by
  refine zb0 st (fun i cf hi => ?_) (fun i j => ?_) HBS.out
  ·have him:i < 5:=(List.getElem?_eq_some_iff.1 hi).1;rcases (show i=0∨i=1∨i=2∨i=3∨i=4 by omega) with rfl | rfl | rfl | rfl | rfl
   ·cases hi;refine ⟨enters_of Tryz.func115 (by kernel_rfl) rfl,fun j hj w2 hw2 => ?_⟩;exact zin a n c fa fn fc ra rn rc oa on oc B (j:Int) w.heap.size w2 (ze KB.out hw2)
   ·cases hi;refine ⟨enters_of Tryz.func116 (by kernel_rfl) rfl,fun j hj w2 hw2 => ?_⟩;exact zio a n c fa fn fc ra rn rc oa on oc B (j:Int) w.heap.size w2 (ze KB.out hw2)
   ·cases hi;refine ⟨enters_of Tryz.func118 (by kernel_rfl) rfl,fun j hj w2 hw2 => ?_⟩;exact zip a n c fa fn fc ra rn rc oa on oc B (j:Int) w.heap.size w2 (ze KB.out hw2)
   ·cases hi;refine ⟨enters_of Tryz.func119 (by kernel_rfl) rfl,fun j hj w2 hw2 => ?_⟩;exact ziq a n c fa fn fc ra rn rc oa on oc B (j:Int) w.heap.size w2 (ze KB.out hw2)
   ·cases hi;refine ⟨enters_of Tryz.func120 (by kernel_rfl) rfl,fun j hj w2 hw2 => ?_⟩;exact zir a n c fa fn fc ra rn rc oa on oc B (j:Int) w.heap.size w2 (ze KB.out hw2)
  ·unfold ownG
   split
   ·exact ⟨rfl,HNM.out⟩
   all_goals exact ⟨rfl,Nat.zero_le _⟩
  )
 have HD:=hide hd;clear hd st;go_wp2;go_ret;exact ⟨ao,cap,l,rfl,(by rw [HD.out]; rfl),HT.out,HB.out⟩
 

end

end Go.Proofs.YtljbdmlgfggadaaGreat
