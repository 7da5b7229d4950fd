/-
  Packed: MibListS MibIn ChgKeep.
-/
import Derived.Test.YtcpdkcdfnpcemaaGreatPRK16
namespace Go.Proofs.YtcpdkcdfnpcemaaGreat
set_option maxRecDepth 100000
set_option maxHeartbeats 16000000
open Go.RowKit

section
open Go.RowKit

structure MbSt (w wr:World) (cs:Array Value) (ao:Option Addr) (cap:Nat) (l:List BI):Prop where
 box:wr.heap[w.heap.size]? = some (.cells cs 31)
 own:BOwns wr (w.heap.size+1) ao l.length cap l
 below:Below w.heap.size w wr

section
variable {w wr w':World} {cs:Array Value} {ao ao':Option Addr} {cap cap':Nat} {l l':List BI}
theorem MbSt.base (h:MbSt w wr cs ao cap l):w.heap.size+1≤wr.heap.size:=Nat.succ_le_of_lt (Array.getElem?_eq_some_iff.1 h.box).1
theorem MbSt.later (h:MbSt w wr cs ao cap l) (hb:Below wr.heap.size wr w'):MbSt w w' cs ao cap l:=⟨ze h.box hb,h.own.below hb,zd h.below hb⟩
theorem MbSt.next (h:MbSt w wr cs ao cap l) (hb:Below (w.heap.size+1) wr w') (ho:BOwns w' (w.heap.size+1) ao' l'.length cap' l'):MbSt w w' cs ao' cap' l' :=
 ⟨(hb.block _ (Nat.lt_succ_self _)).trans h.box,ho,h.below.trans (hb.mono (Nat.le_succ _))⟩
end

theorem zgX {w:World} {g base:Nat} {y:BI} (h:w.heap[g]? = some (.cells #[.slice y.oa y.on y.oc,.int .i64 y.K,.int .i64 y.N,.string y.S,.slice y.za y.zn y.zc] 37)) (hb:base≤g) (hy:BOwn w base y) (hnd:y.blks.Nodup):BOwns w base (some ⟨g,0,none⟩) 1 1 [y] where
 row:=by
  refine ⟨by rw [zbx]; rfl,.inr ⟨g,1,_,rfl,hb,h,Nat.le_refl _,by unfold maxLen; omega, ?_, ?_⟩⟩
  ·rfl
  ·rfl
 item:=fun x hx=>by
  rw [List.mem_singleton] at hx;subst hx;exact hy
 apart:=by simpa using hnd

theorem zgk {w0 w:World} {g:Nat} (h:w.heap[g]? = some (.cells #[] 37)) (hb:w0.heap.size≤g):BOwns w w0.heap.size (some ⟨g,0,none⟩) 0 0 [] :=
 ⟨zaL fentF w0 w 37 g h hb,(by intro x hx; cases hx),List.nodup_nil⟩

theorem za4 {g:Int→List BD} {m:Nat} (h:∀c,(g c).length≤m):∀k,(zaa g k).length≤k*m
 | 0=>by simp [zaa]
 | k+1=>by
  have:=za4 h k
  have:=h ((k:Int)+1)
  rw [zaa,List.length_append,Nat.add_mul];omega

structure MbOk (B:BR):Prop where
 p:B.ports.length≤6
 r:B.v.rows.length≤6
 f:B.f.length≤12
 ri:∀r∈B.v.rows,1≤r.i∧r.i≤99
 fi:∀e∈B.f,(1≤e.t∧e.t≤99)∧(1≤e.m∧e.m≤9999)∧(0≤e.p∧e.p≤7)
 o:B.v.own.length=B.ports.length

theorem mb_ok {B:BR} (h:zG B=true):MbOk B:=by
 obtain ⟨-,-,-,hp,hf,hv,-⟩:=zaV h;have hp6:B.ports.length≤6:=by unfold in3 at hp; simp at hp; omega
 have hf':=(zaW B.f).1 hf;unfold zO at hv;simp only [Bool.and_eq_true,List.all_eq_true,decide_eq_true_eq,beq_iff_eq] at hv;refine ⟨hp6,hv.1.1.1.2,hf'.2,fun r hr => ?_,fun e he => ?_,by have:=hv.1.1.1.1.2; omega⟩
 ·have h1:=hv.1.1.2 r hr;unfold zaY in3 at h1;simp only [Bool.and_eq_true,decide_eq_true_eq] at h1;omega
 ·have h1:=(zdw e).1 (hf'.1.1 e he);exact ⟨h1.1,h1.2.1,h1.2.2.1⟩

theorem d_len {l:List BI} {d:List BD} (h:l.map BI.d=d):l.length=d.length:=by rw [← h,List.length_map]

theorem zdd (a:Option Addr) (n c:Nat) (fa:Option Addr) (fn fc:Nat) (ra:Option Addr) (rn rc:Nat) (oa:Option Addr) (on oc:Nat) (B:BR) (w:World) (h:BrRow w a n c fa fn fc ra rn rc oa on oc B) :
  Calls Tryz.prog 33 #[.agg #[.int .i64 B.id,.string B.name,.slice a n c,.slice fa fn fc,.slice ra rn rc,.slice oa on oc,.int .i64 B.ticks,.int .i64 B.parse,.int .i64 B.word,.int .i64 B.drops,.int .i64 B.vers]] w fun e w'=>∃(ao:Option Addr) (cap:Nat) (l:List BI),e=.returned (.slice ao l.length cap)∧l.map BI.d=zal B∧BOwns w' w.heap.size ao l.length cap l∧Below w.heap.size w w':=by
 generalize hw1:w.alloc (Obj.cells #[.int .i64 B.id,.string B.name,.slice a n c,.slice fa fn fc,.slice ra rn rc,.slice oa on oc,.int .i64 B.ticks,.int .i64 B.parse,.int .i64 B.word,.int .i64 B.drops,.int .i64 B.vers] 31)=w1;have b1:=zb hw1;have k1:=zk hw1;have HZ:Hid (w1.heap.size=w.heap.size+1):=hide (by rw [← hw1]; simp);have HH:=hide h;obtain ⟨x0,x1,x2,x3,x4,x5,x6,x7,x8,x9,x10⟩:=zj k1;go_enter Tryz.func33,Tryz.ntmps33;go_wp2_with fail
 clear hw1;refine (zdb a n c fa fn fc ra rn rc oa on oc B _ (h.below b1)).mono ?_;rintro e w2 ⟨rfl,hb2⟩;have k2:=ze k1 hb2;have b2:=zd b1 hb2;have HZ2:Hid (w.heap.size+1≤w2.heap.size):=hide (by have:=hb2.size; have:=HZ.out; omega);clear hb2 k1 b1 x0 x1 x2 x3 x4 x5 x6 x7 x8 x9 x10 h;cases hok:zG B
 ·have HM:Hid (zal B=[]):=hide (by unfold zal; rw [if_neg (by rw [hok]; decide)]);generalize hwn:w2.alloc (Obj.cells #[] 37)=wn;have bn:=zb hwn;have kn:=zk hwn;have HO:=hide (zgk kn (show w.heap.size≤w2.heap.size from b2.size));have HB:=hide (zd b2 bn);clear hok bn kn k2 b2;go_wp2;go_ret;exact ⟨_,_,[],rfl,HM.out.symm,HO.out,HB.out⟩
 ·have HM:Hid (zal B=zaU B):=hide (by unfold zal; rw [if_pos hok]);have HOK:=hide (mb_ok hok);have HN:Hid (n=B.ports.length∧rn=B.v.rows.length∧fn=B.f.length∧on=B.v.own.length):=hide ⟨HH.out.ports.size.symm,HH.out.v.rows.size.symm,HH.out.f.size.symm,HH.out.v.own.size.symm⟩;have HNAME:Hid (B.name.size≤maxLen):=hide (by have:=(zaV hok).2.2.1; unfold maxLen; omega);clear hok;obtain ⟨x0,x1,x2,x3,x4,x5,x6,x7,x8,x9,x10⟩:=zj k2;(go_upto_region 3 with fail);have vv:Below w2.heap.size w2 w2.drew:=zr (Below.refl _ _);refine wp_region_held_drew (S:=(fun W=>zcc W w.heap.size 1 (.string B.name))) (by kernel_rfl) ((zj (ze k2 vv)).2.1) (fun hHeld => ?_);refine kK 2 ?_;refine kK 3 ?_;refine kK 4 ?_;refine kR 0 fun K hK => ?_
  go_simp;clear hHeld
  first
  | refine zac (K:=K _) (fun wx kI hbx => ?_)
  | refine zR (K:=K _) (fun wx kI hbx => ?_)
  have vv:=zd vv hbx;refine kO hK ((zj (ze k2 vv)).2.1) fun hHeld => ?_
  clear hK K;refine kR 1 fun K hK => ?_
  go_simp;clear hHeld;refine (zae _ 2 2 [1,1] _ (zV (base:=0) (by rw [← zF]; exact zT intF (base:=0) (l:=[1,1]) kI rfl (Nat.zero_le _) (by simp)) (by intro z hz; simp at hz; omega)) (by omega)).mono ?_;rintro e wz ⟨na,nc,rfl,oN,hbz⟩;have oN:=zbc oN vv.size;have vv:=zd vv hbz;clear hbz;(go_wp2_with fail);refine kO hK ((zj (ze k2 vv)).2.1) fun hHeld => ?_
  clear hK K;refine kK 5 ?_;refine kR 6 fun K hK => ?_
  go_simp;clear hHeld
  first
  | refine zac (K:=K _) (fun wy kY hby => ?_)
  | refine zR (K:=K _) (fun wy kY hby => ?_)
  have gY:=vv.size;have vv:=zd vv hby;refine kO hK ((zj (ze k2 vv)).2.1) fun hHeld => ?_
  clear hK K;refine kK 7 ?_;refine wpAnyH_done (by kernel_rfl) ?_ _;clear hHeld;have st:MbSt w wy #[.int .i64 B.id,.string B.name,.slice a n c,.slice fa fn fc,.slice ra rn rc,.slice oa on oc,.int .i64 B.ticks,.int .i64 B.parse,.int .i64 B.word,.int .i64 B.drops,.int .i64 B.vers] (some ⟨wz.heap.size,0,none⟩) 1 [(⟨na,5,nc,nmI [1,1],4,0,B.name,none,0,0,[]⟩:BI)]:=⟨ze k2 vv,zgX (y:=(⟨na,5,nc,nmI [1,1],4,0,B.name,none,0,0,[]⟩:BI)) kY (Nat.le_trans HZ2.out gY) ⟨zbc (zbG oN hby) HZ2.out,World.ownsRow_nil _ _ _ _,by intro z hz; simp [nmI] at hz; omega,(by intro z hz; cases hz),HNAME.out⟩ (by show (blkL na++blkL none).Nodup; cases na <;> simp [blkL]),zd b2 vv⟩;have hd:[(⟨na,5,nc,nmI [1,1],4,0,B.name,none,0,0,[]⟩:BI)].map BI.d=[nameD B.name]:=rfl;have HL0:Hid ([(⟨na,5,nc,nmI [1,1],4,0,B.name,none,0,0,[]⟩:BI)].length=1):=hide rfl;clear kY kI oN vv gY hbx hby k2 b2 x0 x1 x2 x3 x4 x5 x6 x7 x8 x9 x10;generalize wz.heap.size=G at *;have HLEN:=hide (d_len hd);have HSM:[nameD B.name].length≤1000:=by simp
  generalize hwa:wy.alloc (Obj.cells #[.int .i64 1,.int .i64 2] 3)=wa;have ba:=zb hwa;have ka:=zk hwa;have st:=st.later ba;obtain ⟨x0,x1,x2,x3,x4,x5,x6,x7,x8,x9,x10⟩:=zj st.box;(go_wp2_with fail);clear hwa x0 x1 x2 x3 x4 x5 x6 x7 x8 x9 x10;refine (zaS (some ⟨G,0,none⟩) 1 [(⟨na,5,nc,nmI [1,1],4,0,B.name,none,0,0,[]⟩:BI)] _ 2 2 [1,2] B.ticks (w.heap.size+1) _ st.own (zV (base:=0) (by rw [← zF]; exact zT intF (base:=0) (l:=[1,2]) ka rfl (Nat.zero_le _) (by simp)) (by intro z hz; simp at hz; omega)) (by omega) (by rw [HLEN.out]; exact HSM) st.base).mono ?_;rintro e v1 ⟨o1,p1,y,rfl,hy,hO,hbz⟩;have st:=st.next hbz hO;have hd:([(⟨na,5,nc,nmI [1,1],4,0,B.name,none,0,0,[]⟩:BI)]++[y]).map BI.d=[nameD B.name,numD [1,2] B.ticks]:=by rw [List.map_append,hd]; rw [List.map_singleton,hy]; rfl
  have HLL:Hid (([(⟨na,5,nc,nmI [1,1],4,0,B.name,none,0,0,[]⟩:BI)]++[y]).length=[(⟨na,5,nc,nmI [1,1],4,0,B.name,none,0,0,[]⟩:BI)].length+1):=hide (by simp);clear hy hO hbz ka HLEN;clear ba HSM;rw [← HLL.out];generalize [(⟨na,5,nc,nmI [1,1],4,0,B.name,none,0,0,[]⟩:BI)]++[y]=l1 at *;clear HLL;have HLEN:=hide (d_len hd);have HSM:[nameD B.name,numD [1,2] B.ticks].length≤1000:=by simp
  generalize hwa:v1.alloc (Obj.cells #[.int .i64 1,.int .i64 3] 3)=wa;have ba:=zb hwa;have ka:=zk hwa;have st:=st.later ba;obtain ⟨x0,x1,x2,x3,x4,x5,x6,x7,x8,x9,x10⟩:=zj st.box;(go_wp2_with fail);clear hwa x0 x1 x2 x3 x4 x5 x6 x7 x8 x9 x10;refine (zaS o1 p1 l1 _ 2 2 [1,3] B.parse (w.heap.size+1) _ st.own (zV (base:=0) (by rw [← zF]; exact zT intF (base:=0) (l:=[1,3]) ka rfl (Nat.zero_le _) (by simp)) (by intro z hz; simp at hz; omega)) (by omega) (by rw [HLEN.out]; exact HSM) st.base).mono ?_;rintro e v2 ⟨o2,p2,y,rfl,hy,hO,hbz⟩;have st:=st.next hbz hO;have hd:(l1++[y]).map BI.d=[nameD B.name,numD [1,2] B.ticks,numD [1,3] B.parse]:=by rw [List.map_append,hd]; rw [List.map_singleton,hy]; rfl
  have HLL:Hid ((l1++[y]).length=l1.length+1):=hide (by simp);clear hy hO hbz ka HLEN;clear ba HSM;rw [← HLL.out];generalize l1++[y]=l2 at *;clear HLL;have HLEN:=hide (d_len hd);have HSM:[nameD B.name,numD [1,2] B.ticks,numD [1,3] B.parse].length≤1000:=by simp
  generalize hwa:v2.alloc (Obj.cells #[.int .i64 1,.int .i64 4] 3)=wa;have ba:=zb hwa;have ka:=zk hwa;have st:=st.later ba;obtain ⟨x0,x1,x2,x3,x4,x5,x6,x7,x8,x9,x10⟩:=zj st.box;(go_wp2_with fail);clear hwa x0 x1 x2 x3 x4 x5 x6 x7 x8 x9 x10;refine (zaS o2 p2 l2 _ 2 2 [1,4] B.word (w.heap.size+1) _ st.own (zV (base:=0) (by rw [← zF]; exact zT intF (base:=0) (l:=[1,4]) ka rfl (Nat.zero_le _) (by simp)) (by intro z hz; simp at hz; omega)) (by omega) (by rw [HLEN.out]; exact HSM) st.base).mono ?_;rintro e v3 ⟨o3,p3,y,rfl,hy,hO,hbz⟩;have st:=st.next hbz hO;have hd:(l2++[y]).map BI.d=[nameD B.name,numD [1,2] B.ticks,numD [1,3] B.parse,numD [1,4] B.word]:=by rw [List.map_append,hd]; rw [List.map_singleton,hy]; rfl
  have HLL:Hid ((l2++[y]).length=l2.length+1):=hide (by simp);clear hy hO hbz ka HLEN;clear ba HSM;rw [← HLL.out];generalize l2++[y]=l3 at *;clear HLL;have HLEN:=hide (d_len hd);have HSM:[nameD B.name,numD [1,2] B.ticks,numD [1,3] B.parse,numD [1,4] B.word].length≤1000:=by simp
  generalize hwa:v3.alloc (Obj.cells #[.int .i64 1,.int .i64 5] 3)=wa;have ba:=zb hwa;have ka:=zk hwa;have st:=st.later ba;obtain ⟨x0,x1,x2,x3,x4,x5,x6,x7,x8,x9,x10⟩:=zj st.box;(go_wp2_with fail);clear hwa x0 x1 x2 x3 x4 x5 x6 x7 x8 x9 x10;refine (zaS o3 p3 l3 _ 2 2 [1,5] B.drops (w.heap.size+1) _ st.own (zV (base:=0) (by rw [← zF]; exact zT intF (base:=0) (l:=[1,5]) ka rfl (Nat.zero_le _) (by simp)) (by intro z hz; simp at hz; omega)) (by omega) (by rw [HLEN.out]; exact HSM) st.base).mono ?_;rintro e v4 ⟨o4,p4,y,rfl,hy,hO,hbz⟩;have st:=st.next hbz hO;have hd:(l3++[y]).map BI.d=[nameD B.name,numD [1,2] B.ticks,numD [1,3] B.parse,numD [1,4] B.word,numD [1,5] B.drops]:=by rw [List.map_append,hd]; rw [List.map_singleton,hy]; rfl
  have HLL:Hid ((l3++[y]).length=l3.length+1):=hide (by simp);clear hy hO hbz ka HLEN;clear ba HSM;rw [← HLL.out];generalize l3++[y]=l4 at *;clear HLL;obtain ⟨x0,x1,x2,x3,x4,x5,x6,x7,x8,x9,x10⟩:=zj st.box;(go_wp2_with fail);clear x0 x1 x2 x3 x4 x5 x6 x7 x8 x9 x10
  go_loopw [3,4,5] (fun v3 vc u5 wr=>∃(k:Nat) (ao:Option Addr) (cap:Nat) (l:List BI),v3=.slice ao l.length cap∧vc=.int .i64 ((k:Int)+1)∧k≤4∧l.map BI.d=zak B++zaa (zai B) k∧MbSt w wr #[.int .i64 B.id,.string B.name,.slice a n c,.slice fa fn fc,.slice ra rn rc,.slice oa on oc,.int .i64 B.ticks,.int .i64 B.parse,.int .i64 B.word,.int .i64 B.drops,.int .i64 B.vers] ao cap l) (fun _ vc _ _=>6 - (intOf vc).toNat)
  case atStart=>exact ⟨0,o4,p4,l4,rfl,rfl,Nat.zero_le _,by rw [hd]; simp [zaa,zak],st⟩
  case round =>
   clear st hd;obtain ⟨k,ao,cap,l,rfl,rfl,hk,hd,st⟩:=hrel;obtain ⟨x0,x1,x2,x3,x4,x5,x6,x7,x8,x9,x10⟩:=zj st.box;by_cases hk4:k < 4
   ·have hk4':(k:Int)+1≤4:=by omega
    have HDK:=hide hd;(go_wp2_with fail)
    go_loopw [3,5] (fun v3 vp wr=>∃(p:Nat) (ao:Option Addr) (cap:Nat) (l:List BI),v3=.slice ao l.length cap∧vp=.int .i64 (p:Int)∧p≤n∧l.map BI.d=zak B++zaa (zai B) k++zau (portB B ((k:Int)+1)) B.ports p∧MbSt w wr #[.int .i64 B.id,.string B.name,.slice a n c,.slice fa fn fc,.slice ra rn rc,.slice oa on oc,.int .i64 B.ticks,.int .i64 B.parse,.int .i64 B.word,.int .i64 B.drops,.int .i64 B.vers] ao cap l) (fun _ vp _=>7 - (intOf vp).toNat)
    case atStart=>exact ⟨0,ao,cap,l,rfl,rfl,Nat.zero_le _,by rw [hd]; simp [zau],st⟩
    case round =>
     clear st hd HDK x0 x1 x2 x3 x4 x5 x6 x7 x8 x9 x10;obtain ⟨p,ao,cap,l,rfl,rfl,hp,hd,st⟩:=hrel;obtain ⟨x0,x1,x2,x3,x4,x5,x6,x7,x8,x9,x10⟩:=zj st.box;have ht6:(n:Int)≤6:=by have:=HN.out; have:=HOK.out.p; have:=HOK.out.r; omega
     by_cases hi:p < n
     ·have hi':(p:Int) < (n:Int):=by omega
      obtain ⟨x,hx⟩:∃x,B.ports[p]? = some x:=⟨_,List.getElem?_eq_getElem (by have:=HN.out; omega)⟩;have HX:=hide hx;have HLEN:=hide (d_len hd);have HSM:(zak B++zaa (zai B) k++zau (portB B ((k:Int)+1)) B.ports p).length≤1000:=by
       have h1:=za4 (g:=zai B) (m:=6) (fun c=>Nat.le_trans (zax _ _ _) HOK.out.p) k;have h2:=zax (portB B ((k:Int)+1)) B.ports p;rw [List.length_append,List.length_append]
       have:(zak B).length=5:=rfl
       have:=HOK.out.p
       have:=HN.out.1
       omega
      generalize hwa:wr.alloc (Obj.cells #[.int .i64 2,.int .i64 ((k:Int)+1),.int .i64 ((p:Int)+1)] 3)=wa;have ba:=zb hwa;have ka:=zk hwa;have st:=st.later ba;obtain ⟨y0,y1,y2,y3,y4,y5,y6,y7,y8,y9,y10⟩:=zj st.box;(go_wp2_with fail);clear hwa x0 x1 x2 x3 x4 x5 x6 x7 x8 x9 x10 y0 y1 y2 y3 y4 y5 y6 y7 y8 y9 y10 ba;refine (zeD a n c fa fn fc ra rn rc oa on oc B ((k:Int)+1) p x _ (HH.out.below st.below) hx (by have:=HN.out; have:=HOK.out.o; omega)).mono ?_;rintro e wb ⟨rfl,hbb⟩;have ka:=ze ka hbb;have st:=st.later hbb;clear hbb hx;(go_wp2_with fail);refine (zaS ao cap l _ 3 3 [2,(k:Int)+1,(p:Int)+1] _ (w.heap.size+1) _ st.own (zV (base:=0) (by rw [← zF]; exact zT intF (base:=0) (l:=[2,(k:Int)+1,(p:Int)+1]) ka rfl (Nat.zero_le _) (by simp)) (by intro z hz; simp at hz; omega)) (by omega) (by rw [HLEN.out]; exact HSM) st.base).mono ?_;rintro e wd ⟨ao2,cap2,y,rfl,hy,hO,hbz⟩;have st:=st.next hbz hO;have hd:(l++[y]).map BI.d=zak B++zaa (zai B) k++zau (portB B ((k:Int)+1)) B.ports (p+1):=by rw [List.map_append,hd]; rw [List.map_singleton,hy,zb4 HX.out,← List.append_assoc]; rfl
      have HLL:Hid ((l++[y]).length=l.length+1):=hide (by simp);clear hy hO hbz ka HLEN;have HST:=hide st;have HD:=hide hd;clear st hd HSM;go_wp2
      go_roundw
      case rel=>exact ⟨p+1,ao2,cap2,l++[y],by rw [HLL.out],by go_num,by omega,HD.out,HST.out⟩
      case measure=>simp [intOf]; omega
     ·have hi':¬(p:Int) < (n:Int):=by omega
      have hpn:p=n:=by omega
      have HD:Hid (l.map BI.d=zak B++zaa (zai B) (k+1)):=hide (by
       rw [hd,hpn,show zaa (zai B) (k+1)=zaa (zai B) k++zai B ((k:Int)+1) from rfl,show zai B ((k:Int)+1)=zau (portB B ((k:Int)+1)) B.ports n by rw [HN.out.1]; rfl,← List.append_assoc])
      have HST:=hide st;clear st hd hpn;go_wp2
      go_roundw
      case rel=>exact ⟨k+1,ao,cap,l,rfl,by go_num,by omega,HD.out,HST.out⟩
      case measure=>simp [intOf]; omega
   ·have hk4':¬(k:Int)+1≤4:=by omega
    have hke:k=4:=by omega
    subst hke;(go_wp2_with fail)
    go_loopw [3,6,7] (fun v3 vc u7 wr=>∃(k:Nat) (ao:Option Addr) (cap:Nat) (l:List BI),v3=.slice ao l.length cap∧vc=.int .i64 ((k:Int)+1)∧k≤3∧l.map BI.d=zak B++zaa (zai B) 4++zaa (zaK B) k∧MbSt w wr #[.int .i64 B.id,.string B.name,.slice a n c,.slice fa fn fc,.slice ra rn rc,.slice oa on oc,.int .i64 B.ticks,.int .i64 B.parse,.int .i64 B.word,.int .i64 B.drops,.int .i64 B.vers] ao cap l) (fun _ vc _ _=>5 - (intOf vc).toNat)
    case atStart=>exact ⟨0,ao,cap,l,rfl,rfl,Nat.zero_le _,by rw [hd]; simp [zaa],st⟩
    case round =>
     clear st hd;obtain ⟨k,ao,cap,l,rfl,rfl,hk,hd,st⟩:=hrel;obtain ⟨x0,x1,x2,x3,x4,x5,x6,x7,x8,x9,x10⟩:=zj st.box;by_cases hk4:k < 3
     ·have hk4':(k:Int)+1≤3:=by omega
      have HDK:=hide hd;(go_wp2_with fail)
      go_loopw [3,7] (fun v3 vp wr=>∃(i:Nat) (ao:Option Addr) (cap:Nat) (l:List BI),v3=.slice ao l.length cap∧vp=.int .i64 (i:Int)∧i≤rn∧l.map BI.d=zak B++zaa (zai B) 4++zaa (zaK B) k++zau (rowB ((k:Int)+1)) B.v.rows i∧MbSt w wr #[.int .i64 B.id,.string B.name,.slice a n c,.slice fa fn fc,.slice ra rn rc,.slice oa on oc,.int .i64 B.ticks,.int .i64 B.parse,.int .i64 B.word,.int .i64 B.drops,.int .i64 B.vers] ao cap l) (fun _ vp _=>7 - (intOf vp).toNat)
      case atStart=>exact ⟨0,ao,cap,l,rfl,rfl,Nat.zero_le _,by rw [hd]; simp [zau],st⟩
      case round =>
       clear st hd HDK x0 x1 x2 x3 x4 x5 x6 x7 x8 x9 x10;obtain ⟨i,ao,cap,l,rfl,rfl,hp,hd,st⟩:=hrel;obtain ⟨x0,x1,x2,x3,x4,x5,x6,x7,x8,x9,x10⟩:=zj st.box;have ht6:(rn:Int)≤6:=by have:=HN.out; have:=HOK.out.p; have:=HOK.out.r; omega
       by_cases hi:i < rn
       ·have hi':(i:Int) < (rn:Int):=by omega
        obtain ⟨r,rb,ro,hx,hra,r0,r1,r2⟩:=zaI (HH.out.v.rows.below st.below) i hi;have hrb:rb < w.heap.size:=by
         obtain ⟨_,_,_,hx2,hra2,q0,-⟩:=zaI HH.out.v.rows i hi;rw [hra] at hra2;cases hra2;exact zu q0
        have HX:=hide hx;have hri:=HOK.out.ri r (List.mem_of_getElem? hx);rw [hra] at x4;have i1:(0:Int)≤(i:Int):=by omega
        have i2:(i:Int) < (rn:Int):=by omega
        have HSM:(zak B++zaa (zai B) 4++zaa (zaK B) k++zau (rowB ((k:Int)+1)) B.v.rows i).length≤1000:=by
         have h1:=za4 (g:=zai B) (m:=6) (fun c=>Nat.le_trans (zax _ _ _) HOK.out.p) 4;have h2:=za4 (g:=zaK B) (m:=6) (fun c=>Nat.le_trans (zax _ _ _) HOK.out.r) k;have h3:=zax (rowB ((k:Int)+1)) B.v.rows i;simp only [List.length_append]
         have:(zak B).length=5:=rfl
         have q1:=HOK.out.r;have q2:=HN.out.2.1;omega
        have hbase:=st.base;have HS:Hid (∀W,Below (w.heap.size+1) wr W→zcc W w.heap.size 4 (.slice (some ⟨rb,ro,none⟩) rn rc)∧(zcc W rb (ro+i*3) (.int .i64 r.i)∧zcc W rb (ro+i*3+1) (.int .i64 r.m)∧zcc W rb (ro+i*3+2) (.int .i64 r.b))):=hide (fun W hW=>⟨(hW.cell (show w.heap.size < w.heap.size+1 from Nat.lt_succ_self _)).trans x4,(hW.cell (show rb < w.heap.size+1 from Nat.lt_succ_of_lt hrb)).trans r0,(hW.cell (show rb < w.heap.size+1 from Nat.lt_succ_of_lt hrb)).trans r1,(hW.cell (show rb < w.heap.size+1 from Nat.lt_succ_of_lt hrb)).trans r2⟩);have vv:Below wr.heap.size wr wr.drew:=zr (Below.refl _ _);have hkk:k < 3:=by omega
        clear hx hra;(go_upto_region 21 with fail);clear x0 x1 x2 x3 x4 x5 x6 x7 x8 x9 x10 r0 r1 r2;refine wp_region_held_drew (S:=(fun W=>zcc W w.heap.size 4 (.slice (some ⟨rb,ro,none⟩) rn rc)∧(zcc W rb (ro+i*3) (.int .i64 r.i)∧zcc W rb (ro+i*3+1) (.int .i64 r.m)∧zcc W rb (ro+i*3+2) (.int .i64 r.b)))) (by kernel_rfl) ((by first | exact HS.out _ vb | exact HS.out _ (vv.mono hbase))) (fun hHeld => ?_)
        repeat' first
        |
         with_reducible refine kLa ?_
         first
         |
          refine kLf 0 ?_;refine kK 0 ?_
         |
          refine kLf 1 ?_;refine kK 1 ?_
         |
          refine kLf 2 ?_;refine kK 2 ?_
         |
          refine kLf 3 ?_;refine kK 3 ?_
         |
          refine kLf 4 ?_;refine kK 4 ?_
         |
          refine kLf 5 ?_;refine kK 5 ?_
         |
          refine kLf 6 ?_;refine kK 6 ?_
         |
          refine kLf 7 ?_;refine kK 7 ?_
         |
          refine kLf 8 ?_;refine kK 8 ?_
         |
          refine kLf 10 ?_;refine kK 10 ?_
         |
          refine kLf 11 ?_;refine kK 11 ?_
         |
          refine kLf 12 ?_;refine kK 12 ?_
         |
          refine kLf 13 ?_;refine kK 13 ?_
         |
          refine kLf 14 ?_;refine kK 14 ?_
         |
          refine kLf 15 ?_;refine kK 15 ?_
         |
          refine kLf 16 ?_;refine kK 16 ?_
         |
          refine kLf 19 ?_;refine kK 19 ?_
         |
          refine kLp [9,17] ?_
         |
          refine kLp [17] ?_
         |
          refine kLp [18] ?_
         |
          refine kLp [9] ?_
         |
          refine wpAnyH_done (by kernel_rfl) ?_ _;have HST:=hide st;have HD:=hide hd;clear hHeld st hd vv vb;go_wp2
          go_roundw
          case rel=>exact ⟨i+1,ao2,cap2,l++[y],by rw [HLL.out],by go_num,by omega,HD.out,HST.out⟩
          case measure=>simp [intOf]; omega
        |
         exact AllReadyH.nil
        |
         refine kLc 9 (fun K hK => ?_) ?_;go_simp
         first
         | refine zac (K:=K _) (fun wa ka hbx => ?_)
         | refine zR (K:=K _) (fun wa ka hbx => ?_)
         have vv:=zd vv hbx;clear hbx;refine kO hK ((by first | exact HS.out _ vb | exact HS.out _ (vv.mono hbase))) fun hHeld => ?_
         clear hK K
        |
         refine kLc 17 (fun K hK => ?_) ?_;go_simp;refine (zfp r ((k:Int)+1) _).mono ?_;rintro e wb ⟨rfl,hbb⟩;(try have ka:=ze ka hbb);have vv:=zd vv hbb;clear hbb;(go_wp2_with fail);refine kO hK ((by first | exact HS.out _ vb | exact HS.out _ (vv.mono hbase))) fun hHeld => ?_
         clear hK K
        |
         refine kLc 18 (fun K hK => ?_) ?_;go_simp;have st:=st.later vv;have HLEN:=hide (d_len hd);refine (zaS ao cap l _ 3 3 [3,(k:Int)+1,r.i] _ (w.heap.size+1) _ st.own (zV (base:=0) (by rw [← zF]; exact zT intF (base:=0) (l:=[3,(k:Int)+1,r.i]) ka rfl (Nat.zero_le _) (by simp)) (by intro z hz; simp at hz; omega)) (by omega) (by rw [HLEN.out]; exact HSM) st.base).mono ?_;rintro e wd ⟨ao2,cap2,y,rfl,hy,hO,hbz⟩;have st:=st.next hbz hO;have vb:=(vv.mono hbase).trans hbz;have hd:(l++[y]).map BI.d=zak B++zaa (zai B) 4++zaa (zaK B) k++zau (rowB ((k:Int)+1)) B.v.rows (i+1):=by rw [List.map_append,hd,List.map_singleton,hy,zb4 HX.out,← List.append_assoc]; rfl
         have HLL:Hid ((l++[y]).length=l.length+1):=hide (by simp);clear hy hO hbz HLEN;(go_wp2_with fail);refine kO hK ((by first | exact HS.out _ vb | exact HS.out _ (vv.mono hbase))) fun hHeld => ?_
         clear hK K
       ·have hi':¬(i:Int) < (rn:Int):=by omega
        have hpn:i=rn:=by omega
        have HD:Hid (l.map BI.d=zak B++zaa (zai B) 4++zaa (zaK B) (k+1)):=hide (by
         rw [hd,hpn,show zaa (zaK B) (k+1)=zaa (zaK B) k++zaK B ((k:Int)+1) from rfl,show zaK B ((k:Int)+1)=zau (rowB ((k:Int)+1)) B.v.rows rn by rw [HN.out.2.1]; rfl,← List.append_assoc])
        have HST:=hide st;clear st hd hpn;go_wp2
        go_roundw
        case rel=>exact ⟨k+1,ao,cap,l,rfl,by go_num,by omega,HD.out,HST.out⟩
        case measure=>simp [intOf]; omega
     ·have hk4':¬(k:Int)+1≤3:=by omega
      have hke:k=3:=by omega
      subst hke;(go_wp2_with fail)
      go_loopw [3,8] (fun v3 vi wr=>∃(i:Nat) (ao:Option Addr) (cap:Nat) (l:List BI),v3=.slice ao l.length cap∧vi=.int .i64 (i:Int)∧i≤fn∧l.map BI.d=zak B++zaa (zai B) 4++zaa (zaK B) 3++zau entB B.f i∧MbSt w wr #[.int .i64 B.id,.string B.name,.slice a n c,.slice fa fn fc,.slice ra rn rc,.slice oa on oc,.int .i64 B.ticks,.int .i64 B.parse,.int .i64 B.word,.int .i64 B.drops,.int .i64 B.vers] ao cap l) (fun _ vi _=>13 - (intOf vi).toNat)
      case atStart=>exact ⟨0,ao,cap,l,rfl,rfl,Nat.zero_le _,by rw [hd]; simp [zau],st⟩
      case round =>
       clear st hd x0 x1 x2 x3 x4 x5 x6 x7 x8 x9 x10;obtain ⟨i,ao,cap,l,rfl,rfl,hp,hd,st⟩:=hrel;obtain ⟨x0,x1,x2,x3,x4,x5,x6,x7,x8,x9,x10⟩:=zj st.box;have ht6:(fn:Int)≤12:=by have:=HN.out; have:=HOK.out.f; omega
       by_cases hi:i < fn
       ·have hi':(i:Int) < (fn:Int):=by omega
        obtain ⟨r,rb,ro,hx,hra,r0,r1,r2,-⟩:=zbi (HH.out.f.below st.below) i hi;have hrb:rb < w.heap.size:=by
         obtain ⟨_,_,_,hx2,hra2,q0,-⟩:=zbi HH.out.f i hi;rw [hra] at hra2;cases hra2;exact zu q0
        have HX:=hide hx;have hri:=HOK.out.fi r (List.mem_of_getElem? hx);have hwp:IntKind.i64.wrap (r.p+1)=r.p+1:=by rw [IntKind.wrap_i64]; omega
        rw [hra] at x3;have i1:(0:Int)≤(i:Int):=by omega
        have i2:(i:Int) < (fn:Int):=by omega
        have HSM:(zak B++zaa (zai B) 4++zaa (zaK B) 3++zau entB B.f i).length≤1000:=by
         have h1:=za4 (g:=zai B) (m:=6) (fun c=>Nat.le_trans (zax _ _ _) HOK.out.p) 4;have h2:=za4 (g:=zaK B) (m:=6) (fun c=>Nat.le_trans (zax _ _ _) HOK.out.r) 3;have h3:=zax entB B.f i;simp only [List.length_append]
         have:(zak B).length=5:=rfl
         have q1:=HOK.out.f;have q2:=HN.out.2.2.1;omega
        have hbase:=st.base;have HS:Hid (∀W,Below (w.heap.size+1) wr W→zcc W w.heap.size 3 (.slice (some ⟨rb,ro,none⟩) fn fc)∧(zcc W rb (ro+i*5) (.int .i64 r.t)∧zcc W rb (ro+i*5+1) (.int .i64 r.m)∧zcc W rb (ro+i*5+2) (.int .i64 r.p))):=hide (fun W hW=>⟨(hW.cell (show w.heap.size < w.heap.size+1 from Nat.lt_succ_self _)).trans x3,(hW.cell (show rb < w.heap.size+1 from Nat.lt_succ_of_lt hrb)).trans r0,(hW.cell (show rb < w.heap.size+1 from Nat.lt_succ_of_lt hrb)).trans r1,(hW.cell (show rb < w.heap.size+1 from Nat.lt_succ_of_lt hrb)).trans r2⟩);have vv:Below wr.heap.size wr wr.drew:=zr (Below.refl _ _);clear hx hra;(go_upto_region 25 with fail);clear x0 x1 x2 x3 x4 x5 x6 x7 x8 x9 x10 r0 r1 r2;refine wp_region_held_drew (S:=(fun W=>zcc W w.heap.size 3 (.slice (some ⟨rb,ro,none⟩) fn fc)∧(zcc W rb (ro+i*5) (.int .i64 r.t)∧zcc W rb (ro+i*5+1) (.int .i64 r.m)∧zcc W rb (ro+i*5+2) (.int .i64 r.p)))) (by kernel_rfl) ((by first | exact HS.out _ vb | exact HS.out _ (vv.mono hbase))) (fun hHeld => ?_);refine kK 0 ?_;refine kK 1 ?_;refine kK 2 ?_;refine kK 3 ?_;refine kK 4 ?_;refine kK 5 ?_;refine kK 6 ?_;refine kK 7 ?_;refine kK 8 ?_;refine kK 9 ?_;refine kK 10 ?_;refine kK 11 ?_;refine kK 12 ?_;refine kK 14 ?_;refine kK 15 ?_;refine kK 16 ?_;refine kK 17 ?_;refine kK 18 ?_;refine kK 19 ?_;refine kK 20 ?_;refine kR 13 fun K hK => ?_
        go_simp
        first
        | refine zac (K:=K _) (fun wa ka hbx => ?_)
        | refine zR (K:=K _) (fun wa ka hbx => ?_)
        have vv:=zd vv hbx;clear hbx;refine kO hK ((by first | exact HS.out _ vb | exact HS.out _ (vv.mono hbase))) fun hHeld => ?_
        clear hK K;refine kR 21 fun K hK => ?_
        go_simp;have st:=st.later vv;have HLEN:=hide (d_len hd);refine (zaS ao cap l _ 4 4 [4,1,r.t,r.m] _ (w.heap.size+1) _ st.own (zV (base:=0) (by rw [← zF]; exact zT intF (base:=0) (l:=[4,1,r.t,r.m]) ka rfl (Nat.zero_le _) (by simp)) (by intro z hz; simp at hz; omega)) (by omega) (by rw [HLEN.out]; exact HSM) st.base).mono ?_;rintro e wd ⟨ao2,cap2,y,rfl,hy,hO,hbz⟩;have st:=st.next hbz hO;have vb:=(vv.mono hbase).trans hbz;have hd:(l++[y]).map BI.d=zak B++zaa (zai B) 4++zaa (zaK B) 3++zau entB B.f (i+1):=by rw [List.map_append,hd,List.map_singleton,hy,zb4 HX.out,← List.append_assoc]; rfl
        have HLL:Hid ((l++[y]).length=l.length+1):=hide (by simp);clear hy hO hbz HLEN;(go_wp2_with fail);refine kO hK ((by first | exact HS.out _ vb | exact HS.out _ (vv.mono hbase))) fun hHeld => ?_
        clear hK K;refine kK 22 ?_;refine wpAnyH_done (by kernel_rfl) ?_ _;have HST:=hide st;have HD:=hide hd;clear hHeld st hd vv vb;go_wp2
        go_roundw
        case rel=>exact ⟨i+1,ao2,cap2,l++[y],by rw [HLL.out],by go_num,by omega,HD.out,HST.out⟩
        case measure=>simp [intOf]; omega
       ·have hi':¬(i:Int) < (fn:Int):=by omega
        have hin:i=fn:=by omega
        have HD:Hid (l.map BI.d=zal B):=hide (by
         rw [HM.out,hd,hin];unfold zaU;rw [show zdJ B=zau entB B.f fn by rw [HN.out.2.2.1]; rfl])
        have HO:=hide (st.own.lt (Nat.le_succ _));have HB:=hide st.below;clear st hd hin;go_wp2;go_ret;exact ⟨ao,cap,l,rfl,HD.out,HO.out,HB.out⟩

end

theorem za6 {α:Type} {f:Nat→α→BD} {l:List α} {d:BD}:∀{k:Nat},d∈zau f l k→∃(i:Nat) (x:α),i < k∧l[i]? = some x∧d=f i x
 | 0,h=>by simp [zau] at h
 | k+1,h=>by
  rw [zau] at h
  split at h
  ·next x hx =>
   rcases List.mem_append.1 h with h | h
   ·obtain ⟨i,y,hi,hy,e⟩:=za6 h;exact ⟨i,y,by omega,hy,e⟩
   ·rw [List.mem_singleton] at h;exact ⟨k,x,by omega,hx,h⟩
  ·obtain ⟨i,y,hi,hy,e⟩:=za6 h;exact ⟨i,y,by omega,hy,e⟩

theorem zbT {g:Int→List BD} {d:BD}:∀{k:Nat},d∈zaa g k→∃c:Nat,c < k∧d∈g ((c:Int)+1)
 | 0,h=>by simp [zaa] at h
 | k+1,h=>by
  rw [zaa] at h;rcases List.mem_append.1 h with h | h
  ·obtain ⟨c,hc,hd⟩:=zbT h;exact ⟨c,by omega,hd⟩
  ·exact ⟨k,by omega,h⟩

structure LitB (d:BD):Prop where
 o:d.o.length≤7
 i:∀z∈d.o,0≤z∧z≤9999
 s:d.S.size≤10
 z:d.z=[]
 k:d.K=2∨d.K=4

theorem zeu {l:List Int} {n:Int} (h:l.length≤4) (hz:∀z∈l,0≤z∧z≤9999):LitB (numD l n):=by
 refine ⟨?_, ?_,by show (0:Nat)≤10; omega,rfl,.inl rfl⟩
 ·show (nmI l).length≤7
  unfold nmI;simp only [List.length_cons];omega
 ·intro z hzz;have hzz:z∈nmI l:=hzz;unfold nmI at hzz;simp only [List.mem_cons] at hzz;rcases hzz with rfl | rfl | rfl | h
  ·omega
  ·omega
  ·omega
  ·exact hz z h

theorem zhi {B:BR} (h:zG B=true):∀d∈zaU B,LitB d:=by
 have ok:=mb_ok h;intro d hd;unfold zaU at hd;simp only [List.mem_append] at hd;rcases hd with ((hd | hd) | hd) | hd
 ·unfold zak at hd;simp only [List.mem_cons,List.not_mem_nil,or_false] at hd;rcases hd with rfl | rfl | rfl | rfl | rfl
  ·refine ⟨by show (nmI [1,1]).length≤7; simp [nmI], ?_, ?_,rfl,.inr rfl⟩
   ·intro z hz;have hz:z∈nmI [1,1]:=hz
    simp [nmI] at hz
    omega
   ·have:=(zaV h).2.2.1
    show B.name.size≤10
    omega
  all_goals exact zeu (by simp) (by intro z hz; simp at hz; omega)
 ·obtain ⟨c,hc,hd⟩:=zbT hd;obtain ⟨p,x,hp,hx,rfl⟩:=za6 hd
  have:=ok.p
  exact zeu (by simp) (by intro z hz; simp at hz; omega)
 ·obtain ⟨c,hc,hd⟩:=zbT hd;obtain ⟨i,r,hi,hr,rfl⟩:=za6 hd
  have:=ok.ri r (List.mem_of_getElem? hr)
  exact zeu (by simp) (by intro z hz; simp at hz; omega)
 ·obtain ⟨i,e,hi,he,rfl⟩:=za6 hd
  have:=ok.fi e (List.mem_of_getElem? he)
  exact zeu (by simp) (by intro z hz; simp at hz; omega)

theorem zio {B:BR}:∀d∈zal B,LitB d:=by
 unfold zal
 split
 ·next h=>exact zhi h
 ·intro d hd; cases hd

theorem zex {B:BR} (ok:MbOk B):(zaU B).length≤100:=by
 have h1:=za4 (g:=zai B) (m:=6) (fun c=>Nat.le_trans (zax _ _ _) ok.p) 4;have h2:=za4 (g:=zaK B) (m:=6) (fun c=>Nat.le_trans (zax _ _ _) ok.r) 3;have h3:(zdJ B).length≤B.f.length:=zax entB B.f B.f.length;have h4:(zak B).length=5:=rfl;have h5:=ok.f;unfold zaU;simp only [List.length_append];omega

theorem zhh (B:BR):(zal B).length≤100:=by
 unfold zal
 split
 ·next h=>exact zex (mb_ok h)
 ·simp

theorem zgW {B:BR} {l:List BI} (h:l.map BI.d=zal B) {x:BI} (hx:x∈l):LitB x.d:=zio x.d (by rw [← h]; exact List.mem_map_of_mem hx)

theorem zeg (l:List VR) (id:Int):zI l id=(l.map VR.i).findIdx? (fun z=>z == id):=by
 unfold zI;rw [List.findIdx?_map]
 rfl
theorem zga (l:List VR):vrises l=true↔(l.map VR.i).Pairwise (fun a b=>a < b):=by
 rw [zbH,List.pairwise_map]

theorem zhP {l:List VR} {k:Nat} {x r:VR} (hx:l[k]? = some x) (e:r.i=x.i):(l.set k r).map VR.i=l.map VR.i:=by
 rw [List.map_set,e];have h2:(l.map VR.i)[k]? = some x.i:=by rw [List.getElem?_map,hx]; rfl
 obtain ⟨hk,h3⟩:=List.getElem?_eq_some_iff.1 h2;rw [← h3,List.set_getElem_self]

theorem zgc {l:List VR} {k:Nat} {x r:VR} (h:vrises l=true) (hx:l[k]? = some x) (e:r.i=x.i):vrises (l.set k r)=true:=by
 rw [zga,zhP hx e,← zga];exact h
theorem zje {l:List VR} {k:Nat} {x r:VR} (hx:l[k]? = some x) (e:r.i=x.i) (id:Int):zI (l.set k r) id=zI l id:=by
 rw [zeg,zhP hx e,← zeg]

theorem zfh {l:List VR} {id:Int} (h:zI l id=none):∀x∈l,x.i≠id:=by
 intro x hx e
 have:=zfM h
 rw [List.find?_eq_none] at this;have h2:=this x hx;rw [e] at h2
 simp at h2

theorem zhF:∀{l:List VR} {r:VR},l.Pairwise (fun a b=>a.i < b.i)→(∀x∈l,x.i≠r.i)→(zy l r false).Pairwise (fun a b=>a.i < b.i)∧(zy l r false).length=l.length+1∧∀y∈zy l r false,y=r∨y∈l
 | [],r,_,_=>by
  refine ⟨?_,rfl, ?_⟩
  ·show ([r]:List VR).Pairwise _
   exact List.pairwise_singleton _ _
  ·intro y hy;have hy:y∈[r]:=hy;exact .inl (List.mem_singleton.1 hy)
 | x::t,r,hp,hn=>by
  obtain ⟨h1,h2⟩:=List.pairwise_cons.1 hp;have hx:=hn x (List.mem_cons_self ..);have e2:(x.i != r.i)=true:=by simpa using hx
  by_cases hle:r.i≤x.i
  ·have e1:(!false && decide (r.i≤x.i))=true:=by rw [decide_eq_true hle]; rfl
   have e3:zy (x::t) r false=r::x::t:=by
    rw [zy,e1,e2,Bool.false_or,decide_eq_true hle,zdN,zc5 (fun y hy=>by have:=h1 y hy; omega)]
    rfl
   rw [e3];refine ⟨List.pairwise_cons.2 ⟨?_,hp⟩,rfl,fun y hy=>List.mem_cons.1 hy⟩;intro y hy;rcases List.mem_cons.1 hy with rfl | hy
   ·omega
   ·have:=h1 y hy
    omega
  ·have e1:(!false && decide (r.i≤x.i))=false:=by rw [decide_eq_false hle]; rfl
   have e3:zy (x::t) r false=x::zy t r false:=by
    rw [zy,e1,e2,Bool.false_or,decide_eq_false hle]
    rfl
   obtain ⟨i1,i2,i3⟩:=zhF h2 (fun y hy=>hn y (List.mem_cons_of_mem _ hy));rw [e3];refine ⟨List.pairwise_cons.2 ⟨?_,i1⟩,by rw [List.length_cons,i2,List.length_cons], ?_⟩
   ·intro y hy;rcases i3 y hy with rfl | hy
    ·omega
    ·exact h1 y hy
   ·intro y hy;rcases List.mem_cons.1 hy with rfl | hy
    ·exact .inr (List.mem_cons_self ..)
    ·rcases i3 y hy with h | h
     ·exact .inl h
     ·exact .inr (List.mem_cons_of_mem _ h)

theorem zf3 {B:BR} {o:List Int} {k:Nat} (h:zaw B o=some (.mem k)∨zaw B o=some (.bare k)):∃r,B.v.rows[k]? = some r∧zI B.v.rows r.i=some k:=by
 have hp:∃n,zI B.v.rows n=some k:=by
  unfold zaw at h
  split at h
  ·rcases h with h | h <;> cases h
  ·split at h
   ·unfold pickK at h
    split at h
    ·split at h
     ·split at h <;> rcases h with h | h <;> cases h
     ·rcases h with h | h <;> cases h
    ·split at h
     ·split at h
      ·rcases h with h | h <;> cases h
      ·split at h
       ·rcases h with h | h
        ·obtain ⟨j,hj,e⟩:=Option.map_eq_some_iff.1 h
         split at e <;> cases e
         exact ⟨_,hj⟩
        ·obtain ⟨j,hj,e⟩:=Option.map_eq_some_iff.1 h
         split at e <;> cases e
         exact ⟨_,hj⟩
       ·rcases h with h | h <;> cases h
     ·rcases h with h | h <;> cases h
   ·rcases h with h | h <;> cases h
 obtain ⟨n,hn⟩:=hp;obtain ⟨r,hr,he,-⟩:=zcF hn;have e:r.i=n:=by simpa using he
 exact ⟨r,hr,by rw [e]; exact hn⟩

theorem zg9 {B:BR} {o:List Int} {p:Nat} (h:zaw B o=some (.cost p)∨zaw B o=some (.pvid p)):p < B.ports.length:=by
 unfold zaw at h
 split at h
 ·rcases h with h | h <;> cases h
 ·split at h
  ·unfold pickK at h
   split at h
   ·split at h
    ·next hc =>
     split at h <;> rcases h with h | h <;> cases h <;> omega
    ·rcases h with h | h <;> cases h
   ·split at h
    ·split at h
     ·rcases h with h | h <;> cases h
     ·split at h
      ·rcases h with h | h
       ·obtain ⟨j,hj,e⟩:=Option.map_eq_some_iff.1 h
        split at e <;> cases e
       ·obtain ⟨j,hj,e⟩:=Option.map_eq_some_iff.1 h
        split at e <;> cases e
      ·rcases h with h | h <;> cases h
    ·rcases h with h | h <;> cases h
  ·rcases h with h | h <;> cases h

theorem zgu {B:BR} {o:List Int} {v:Int} (h:zaw B o=some (.row v)):1≤v∧v≤99:=by
 unfold zaw at h
 split at h
 ·cases h
 ·split at h
  ·unfold pickK at h
   split at h
   ·split at h
    ·split at h <;> cases h
    ·cases h
   ·split at h
    ·split at h
     ·next hc =>
      cases h;exact hc.2
     ·split at h
      ·obtain ⟨j,hj,e⟩:=Option.map_eq_some_iff.1 h
       split at e <;> cases e
      ·cases h
    ·cases h
  ·cases h

theorem zhB {l:List PT} {p:Nat} {x:PT} {N:Int} (hl:l.all ptOk=true) (hx:l[p]? = some x) (hN:1≤N∧N≤1000):(l.set p ⟨x.up,N,x.has,x.v⟩).all ptOk=true:=by
 rw [List.all_eq_true] at hl ⊢;intro y hy;rcases List.mem_or_eq_of_mem_set hy with hy | rfl
 ·exact hl y hy
 ·have h1:=hl x (List.mem_of_getElem? hx);unfold ptOk at h1 ⊢;simp only [Bool.and_eq_true,decide_eq_true_eq] at h1 ⊢;exact ⟨hN,h1.2⟩

theorem Mid.put {B:BR} {o:List Int} {kd:KD} {N:Int} {S:ByteArray} (h:Mid B) (hk:zaw B o=some kd) (ht:zbK B N S kd=true):Mid (putK B N S kd)∧(putK B N S kd).ports.length=B.ports.length:=by
 cases kd with
 | name =>
  unfold zbK at ht;simp only [decide_eq_true_eq] at ht;exact ⟨⟨h.id,ht,h.ports,h.pn,h.f,h.rises,h.rn,h.ri,h.own,h.ticks,h.parse,h.word,h.drops,h.vers⟩,rfl⟩
 | cost p =>
  have hp:=zg9 (.inl hk);unfold zbK in3 at ht;simp only [Bool.and_eq_true,decide_eq_true_eq] at ht;obtain ⟨x,hx⟩:∃x,B.ports[p]? = some x:=⟨_,List.getElem?_eq_getElem hp⟩;have e:putK B N S (.cost p)={ B with ports:=B.ports.set p ⟨x.up,N,x.has,x.v⟩ }:=by
   simp only [putK,hx]
  have el:(B.ports.set p ⟨x.up,N,x.has,x.v⟩).length=B.ports.length:=List.length_set;rw [e];refine ⟨⟨h.id,h.name,zhB h.ports hx ht,by show 1≤(B.ports.set p _).length∧(B.ports.set p _).length≤6; rw [el]; exact h.pn,h.f,h.rises,h.rn, ?_, ?_,h.ticks,h.parse,h.word,h.drops,h.vers⟩,el⟩
  ·show ∀r∈B.v.rows,(1≤r.i∧r.i≤99)∧(0≤r.m∧r.m≤allOf (B.ports.set p _).length)∧(0≤r.b∧r.b≤allOf (B.ports.set p _).length)
   rw [el];exact h.ri
  ·show B.v.own.length=(B.ports.set p _).length
   rw [el];exact h.own
 | pvid p =>
  exact ⟨⟨h.id,h.name,h.ports,h.pn,h.f,h.rises,h.rn,h.ri,by show (B.v.own.set p N).length=_; rw [List.length_set]; exact h.own,h.ticks,h.parse,h.word,h.drops,h.vers⟩,rfl⟩
 | row v =>
  have hv:=zgu hk;have ht:((decide (N=4) && (!(zI B.v.rows v).isSome && decide (B.v.rows.length < 6))) || (decide (N=6) && (zI B.v.rows v).isSome))=true:=ht;by_cases h4:N=4
  ·rw [decide_eq_true h4,decide_eq_false (show ¬N=6 by omega),Bool.true_and,Bool.false_and,Bool.or_false] at ht;simp only [Bool.and_eq_true,Bool.not_eq_true',decide_eq_true_eq,Option.isSome_eq_false_iff,Option.isNone_iff_eq_none] at ht;have e:putK B N S (.row v)={ B with v:=⟨zy B.v.rows ⟨v,0,0⟩ false,B.v.own⟩ }:=by
    simp only [putK,if_pos h4]
   rw [e];obtain ⟨p1,p2,p3⟩:=zhF (r:=⟨v,0,0⟩) ((zbH _).1 h.rises) (zfh ht.1);refine ⟨⟨h.id,h.name,h.ports,h.pn,h.f,(zbH _).2 p1,by show (zy _ _ _).length≤6; omega, ?_,h.own,h.ticks,h.parse,h.word,h.drops,h.vers⟩,rfl⟩;intro r hr;rcases p3 r hr with rfl | hr
   ·have ha:0≤allOf B.ports.length:=by
     unfold allOf
     have:(0:Int) < 2 ^ B.ports.length:=Int.pow_pos (by omega)
     omega
    exact ⟨hv,⟨Int.le_refl _,ha⟩,Int.le_refl _,ha⟩
   ·exact h.ri r hr
  ·have e:putK B N S (.row v)={ B with v:=⟨B.v.rows.filter (fun r=>r.i != v),B.v.own⟩ }:=by
    simp only [putK,if_neg h4]
   rw [e];refine ⟨⟨h.id,h.name,h.ports,h.pn,h.f,(zbH _).2 (((zbH _).1 h.rises).filter _),Nat.le_trans (List.length_filter_le _ _) h.rn,fun r hr=>h.ri r (List.mem_filter.1 hr).1,h.own,h.ticks,h.parse,h.word,h.drops,h.vers⟩,rfl⟩
 | mem k =>
  obtain ⟨r,hr,-⟩:=zf3 (.inl hk);have e:putK B N S (.mem k)={ B with v:=⟨B.v.rows.set k ⟨r.i,N,r.b⟩,B.v.own⟩ }:=by
   simp only [putK,hr]
  unfold zbK in3 at ht;simp only [Bool.and_eq_true,decide_eq_true_eq] at ht;rw [e];refine ⟨⟨h.id,h.name,h.ports,h.pn,h.f,zgc h.rises hr rfl,by show (B.v.rows.set k _).length≤6; rw [List.length_set]; exact h.rn, ?_,h.own,h.ticks,h.parse,h.word,h.drops,h.vers⟩,rfl⟩;intro y hy;rcases List.mem_or_eq_of_mem_set hy with hy | rfl
  ·exact h.ri y hy
  ·have h1:=h.ri r (List.mem_of_getElem? hr);exact ⟨h1.1,ht,h1.2.2⟩
 | bare k =>
  obtain ⟨r,hr,-⟩:=zf3 (.inr hk);have e:putK B N S (.bare k)={ B with v:=⟨B.v.rows.set k ⟨r.i,r.m,N⟩,B.v.own⟩ }:=by
   simp only [putK,hr]
  unfold zbK in3 at ht;simp only [Bool.and_eq_true,decide_eq_true_eq] at ht;rw [e];refine ⟨⟨h.id,h.name,h.ports,h.pn,h.f,zgc h.rises hr rfl,by show (B.v.rows.set k _).length≤6; rw [List.length_set]; exact h.rn, ?_,h.own,h.ticks,h.parse,h.word,h.drops,h.vers⟩,rfl⟩;intro y hy;rcases List.mem_or_eq_of_mem_set hy with hy | rfl
  ·exact h.ri y hy
  ·have h1:=h.ri r (List.mem_of_getElem? hr);exact ⟨h1.1,h1.2.1,ht⟩

end Go.Proofs.YtcpdkcdfnpcemaaGreat
