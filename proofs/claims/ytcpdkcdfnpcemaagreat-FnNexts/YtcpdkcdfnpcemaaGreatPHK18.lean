/-
  Packed: MibListS MibOwn MibPort.
-/
import Derived.Test.YtcpdkcdfnpcemaaGreatPHK17
import Derived.Shelf.Abstract
namespace Go.Proofs.YtcpdkcdfnpcemaaGreat
set_option maxRecDepth 100000
set_option maxHeartbeats 16000000
open Go.RowKit

section
open Go.RowKit

structure MbSt (w wr:World) (cs:Array Value) (ao:Option Addr) (cap:Nat) (l:List BI):Prop where
 box:wr.heap[w.heap.size]? = some (.cells cs 31)
 own:BOwns wr (w.heap.size+1) ao l.length cap l
 below:Below w.heap.size w wr

section
variable {w wr w':World} {cs:Array Value} {ao ao':Option Addr} {cap cap':Nat} {l l':List BI}
theorem MbSt.base (h:MbSt w wr cs ao cap l):w.heap.size+1≤wr.heap.size:=Nat.succ_le_of_lt (Array.getElem?_eq_some_iff.1 h.box).1
theorem MbSt.later (h:MbSt w wr cs ao cap l) (hb:Below wr.heap.size wr w'):MbSt w w' cs ao cap l:=⟨ze h.box hb,h.own.below hb,zd h.below hb⟩
theorem MbSt.next (h:MbSt w wr cs ao cap l) (hb:Below (w.heap.size+1) wr w') (ho:BOwns w' (w.heap.size+1) ao' l'.length cap' l'):MbSt w w' cs ao' cap' l' :=
 ⟨(hb.block _ (Nat.lt_succ_self _)).trans h.box,ho,h.below.trans (hb.mono (Nat.le_succ _))⟩
end

theorem zgQ {w:World} {g base:Nat} {y:BI} (h:w.heap[g]? = some (.cells #[.slice y.oa y.on y.oc,.int .i64 y.K,.int .i64 y.N,.string y.S,.slice y.za y.zn y.zc] 37)) (hb:base≤g) (hy:BOwn w base y) (hnd:y.blks.Nodup):BOwns w base (some ⟨g,0,none⟩) 1 1 [y] where
 row:=by
  refine ⟨by rw [zbj]; rfl,.inr ⟨g,1,_,rfl,hb,h,Nat.le_refl _,by unfold maxLen; omega, ?_, ?_⟩⟩
  ·rfl
  ·rfl
 item:=fun x hx=>by
  rw [List.mem_singleton] at hx;subst hx;exact hy
 apart:=by simpa using hnd

theorem zgk {w0 w:World} {g:Nat} (h:w.heap[g]? = some (.cells #[] 37)) (hb:w0.heap.size≤g):BOwns w w0.heap.size (some ⟨g,0,none⟩) 0 0 [] :=
 ⟨za7 fentF w0 w 37 g h hb,(by intro x hx; cases hx),List.nodup_nil⟩

theorem zaQ {g:Int→List BD} {m:Nat} (h:∀c,(g c).length≤m):∀k,(zY g k).length≤k*m
 | 0=>by simp [zY]
 | k+1=>by
  have:=zaQ h k
  have:=h ((k:Int)+1)
  rw [zY,List.length_append,Nat.add_mul];omega

structure MbOk (B:BR):Prop where
 p:B.ports.length≤6
 r:B.v.rows.length≤6
 f:B.f.length≤12
 ri:∀r∈B.v.rows,1≤r.i∧r.i≤99
 fi:∀e∈B.f,(1≤e.t∧e.t≤99)∧(1≤e.m∧e.m≤9999)∧(0≤e.p∧e.p≤7)
 o:B.v.own.length=B.ports.length

theorem mb_ok {B:BR} (h:zH B=true):MbOk B:=by
 obtain ⟨-,-,-,hp,hf,hv,-⟩:=za6 h;have hp6:B.ports.length≤6:=by unfold in3 at hp; simp at hp; omega
 have hf':=(zaU B.f).1 hf;unfold zL at hv;simp only [Bool.and_eq_true,List.all_eq_true,decide_eq_true_eq,beq_iff_eq] at hv;refine ⟨hp6,hv.1.1.1.2,hf'.2,fun r hr => ?_,fun e he => ?_,by have:=hv.1.1.1.1.2; omega⟩
 ·have h1:=hv.1.1.2 r hr;unfold zaT in3 at h1;simp only [Bool.and_eq_true,decide_eq_true_eq] at h1;omega
 ·have h1:=(zeA e).1 (hf'.1.1 e he);exact ⟨h1.1,h1.2.1,h1.2.2.1⟩

theorem d_len {l:List BI} {d:List BD} (h:l.map BI.d=d):l.length=d.length:=by rw [← h,List.length_map]

theorem zbU (a:Option Addr) (n c:Nat) (fa:Option Addr) (fn fc:Nat) (ra:Option Addr) (rn rc:Nat) (oa:Option Addr) (on oc:Nat) (B:BR) (w:World) (h:BrRow w a n c fa fn fc ra rn rc oa on oc B) :
  Calls Tryz.prog 33 #[.agg #[.int .i64 B.id,.string B.name,.slice a n c,.slice fa fn fc,.slice ra rn rc,.slice oa on oc,.int .i64 B.ticks,.int .i64 B.parse,.int .i64 B.word,.int .i64 B.drops,.int .i64 B.vers]] w fun e w'=>∃(ao:Option Addr) (cap:Nat) (l:List BI),e=.returned (.slice ao l.length cap)∧l.map BI.d=zaf B∧BOwns w' w.heap.size ao l.length cap l∧Below w.heap.size w w':=by
 generalize hw1:w.alloc (Obj.cells #[.int .i64 B.id,.string B.name,.slice a n c,.slice fa fn fc,.slice ra rn rc,.slice oa on oc,.int .i64 B.ticks,.int .i64 B.parse,.int .i64 B.word,.int .i64 B.drops,.int .i64 B.vers] 31)=w1;have b1:=zb hw1;have k1:=zk hw1;have HZ:Hid (w1.heap.size=w.heap.size+1):=hide (by rw [← hw1]; simp);have HH:=hide h;obtain ⟨x0,x1,x2,x3,x4,x5,x6,x7,x8,x9,x10⟩:=zj k1;go_enter Tryz.func33,Tryz.ntmps33;go_wp2_with fail
 clear hw1;refine (zcV a n c fa fn fc ra rn rc oa on oc B _ (h.below b1)).mono ?_;rintro e w2 ⟨rfl,hb2⟩;have k2:=ze k1 hb2;have b2:=zd b1 hb2;have HZ2:Hid (w.heap.size+1≤w2.heap.size):=hide (by have:=hb2.size; have:=HZ.out; omega);clear hb2 k1 b1 x0 x1 x2 x3 x4 x5 x6 x7 x8 x9 x10 h;cases hok:zH B
 ·have HM:Hid (zaf B=[]):=hide (by unfold zaf; rw [if_neg (by rw [hok]; decide)]);generalize hwn:w2.alloc (Obj.cells #[] 37)=wn;have bn:=zb hwn;have kn:=zk hwn;have HO:=hide (zgk kn (show w.heap.size≤w2.heap.size from b2.size));have HB:=hide (zd b2 bn);clear hok bn kn k2 b2;go_wp2;go_ret;exact ⟨_,_,[],rfl,HM.out.symm,HO.out,HB.out⟩
 ·have HM:Hid (zaf B=zbS B):=hide (by unfold zaf; rw [if_pos hok]);have HOK:=hide (mb_ok hok);have HN:Hid (n=B.ports.length∧rn=B.v.rows.length∧fn=B.f.length∧on=B.v.own.length):=hide ⟨HH.out.ports.size.symm,HH.out.v.rows.size.symm,HH.out.f.size.symm,HH.out.v.own.size.symm⟩;have HNAME:Hid (B.name.size≤maxLen):=hide (by have:=(za6 hok).2.2.1; unfold maxLen; omega);clear hok;obtain ⟨x0,x1,x2,x3,x4,x5,x6,x7,x8,x9,x10⟩:=zj k2;(go_upto_region 3 with fail);have vv:Below w2.heap.size w2 w2.drew:=zv (Below.refl _ _);refine wp_region_held_drew (S:=(fun W=>zcc W w.heap.size 1 (.string B.name))) (by kernel_rfl) ((zj (ze k2 vv)).2.1) (fun hHeld => ?_);refine kK 2 ?_;refine kK 3 ?_;refine kK 4 ?_;refine kR 0 fun K hK => ?_
  go_simp;clear hHeld
  first
  | refine zaO (K:=K _) (fun wx kI hbx => ?_)
  | refine zaB (K:=K _) (fun wx kI hbx => ?_)
  have vv:=zd vv hbx;refine kO hK ((zj (ze k2 vv)).2.1) fun hHeld => ?_
  clear hK K;refine kR 1 fun K hK => ?_
  go_simp;clear hHeld;refine (zW _ 2 2 [1,1] _ (zQ (base:=0) (by rw [← zE]; exact zS intF (base:=0) (l:=[1,1]) kI rfl (Nat.zero_le _) (by simp)) (by intro z hz; simp at hz; omega)) (by omega)).mono ?_;rintro e wz ⟨na,nc,rfl,oN,hbz⟩;have oN:=zaS oN vv.size;have vv:=zd vv hbz;clear hbz;(go_wp2_with fail);refine kO hK ((zj (ze k2 vv)).2.1) fun hHeld => ?_
  clear hK K;refine kK 5 ?_;refine kR 6 fun K hK => ?_
  go_simp;clear hHeld
  first
  | refine zaO (K:=K _) (fun wy kY hby => ?_)
  | refine zaB (K:=K _) (fun wy kY hby => ?_)
  have gY:=vv.size;have vv:=zd vv hby;refine kO hK ((zj (ze k2 vv)).2.1) fun hHeld => ?_
  clear hK K;refine kK 7 ?_;refine wpAnyH_done (by kernel_rfl) ?_ _;clear hHeld;have st:MbSt w wy #[.int .i64 B.id,.string B.name,.slice a n c,.slice fa fn fc,.slice ra rn rc,.slice oa on oc,.int .i64 B.ticks,.int .i64 B.parse,.int .i64 B.word,.int .i64 B.drops,.int .i64 B.vers] (some ⟨wz.heap.size,0,none⟩) 1 [(⟨na,5,nc,nmI [1,1],4,0,B.name,none,0,0,[]⟩:BI)]:=⟨ze k2 vv,zgQ (y:=(⟨na,5,nc,nmI [1,1],4,0,B.name,none,0,0,[]⟩:BI)) kY (Nat.le_trans HZ2.out gY) ⟨zaS (zaY oN hby) HZ2.out,World.ownsRow_nil _ _ _ _,by intro z hz; simp [nmI] at hz; omega,(by intro z hz; cases hz),HNAME.out⟩ (by show (blkL na++blkL none).Nodup; cases na <;> simp [blkL]),zd b2 vv⟩;have hd:[(⟨na,5,nc,nmI [1,1],4,0,B.name,none,0,0,[]⟩:BI)].map BI.d=[nameD B.name]:=rfl;have HL0:Hid ([(⟨na,5,nc,nmI [1,1],4,0,B.name,none,0,0,[]⟩:BI)].length=1):=hide rfl;clear kY kI oN vv gY hbx hby k2 b2 x0 x1 x2 x3 x4 x5 x6 x7 x8 x9 x10;generalize wz.heap.size=G at *;have HLEN:=hide (d_len hd);have HSM:[nameD B.name].length≤1000:=by simp
  generalize hwa:wy.alloc (Obj.cells #[.int .i64 1,.int .i64 2] 3)=wa;have ba:=zb hwa;have ka:=zk hwa;have st:=st.later ba;obtain ⟨x0,x1,x2,x3,x4,x5,x6,x7,x8,x9,x10⟩:=zj st.box;(go_wp2_with fail);clear hwa x0 x1 x2 x3 x4 x5 x6 x7 x8 x9 x10;refine (zaJ (some ⟨G,0,none⟩) 1 [(⟨na,5,nc,nmI [1,1],4,0,B.name,none,0,0,[]⟩:BI)] _ 2 2 [1,2] B.ticks (w.heap.size+1) _ st.own (zQ (base:=0) (by rw [← zE]; exact zS intF (base:=0) (l:=[1,2]) ka rfl (Nat.zero_le _) (by simp)) (by intro z hz; simp at hz; omega)) (by omega) (by rw [HLEN.out]; exact HSM) st.base).mono ?_;rintro e v1 ⟨o1,p1,y,rfl,hy,hO,hbz⟩;have st:=st.next hbz hO;have hd:([(⟨na,5,nc,nmI [1,1],4,0,B.name,none,0,0,[]⟩:BI)]++[y]).map BI.d=[nameD B.name,numD [1,2] B.ticks]:=by rw [List.map_append,hd]; rw [List.map_singleton,hy]; rfl
  have HLL:Hid (([(⟨na,5,nc,nmI [1,1],4,0,B.name,none,0,0,[]⟩:BI)]++[y]).length=[(⟨na,5,nc,nmI [1,1],4,0,B.name,none,0,0,[]⟩:BI)].length+1):=hide (by simp);clear hy hO hbz ka HLEN;clear ba HSM;rw [← HLL.out];generalize [(⟨na,5,nc,nmI [1,1],4,0,B.name,none,0,0,[]⟩:BI)]++[y]=l1 at *;clear HLL;have HLEN:=hide (d_len hd);have HSM:[nameD B.name,numD [1,2] B.ticks].length≤1000:=by simp
  generalize hwa:v1.alloc (Obj.cells #[.int .i64 1,.int .i64 3] 3)=wa;have ba:=zb hwa;have ka:=zk hwa;have st:=st.later ba;obtain ⟨x0,x1,x2,x3,x4,x5,x6,x7,x8,x9,x10⟩:=zj st.box;(go_wp2_with fail);clear hwa x0 x1 x2 x3 x4 x5 x6 x7 x8 x9 x10;refine (zaJ o1 p1 l1 _ 2 2 [1,3] B.parse (w.heap.size+1) _ st.own (zQ (base:=0) (by rw [← zE]; exact zS intF (base:=0) (l:=[1,3]) ka rfl (Nat.zero_le _) (by simp)) (by intro z hz; simp at hz; omega)) (by omega) (by rw [HLEN.out]; exact HSM) st.base).mono ?_;rintro e v2 ⟨o2,p2,y,rfl,hy,hO,hbz⟩;have st:=st.next hbz hO;have hd:(l1++[y]).map BI.d=[nameD B.name,numD [1,2] B.ticks,numD [1,3] B.parse]:=by rw [List.map_append,hd]; rw [List.map_singleton,hy]; rfl
  have HLL:Hid ((l1++[y]).length=l1.length+1):=hide (by simp);clear hy hO hbz ka HLEN;clear ba HSM;rw [← HLL.out];generalize l1++[y]=l2 at *;clear HLL;have HLEN:=hide (d_len hd);have HSM:[nameD B.name,numD [1,2] B.ticks,numD [1,3] B.parse].length≤1000:=by simp
  generalize hwa:v2.alloc (Obj.cells #[.int .i64 1,.int .i64 4] 3)=wa;have ba:=zb hwa;have ka:=zk hwa;have st:=st.later ba;obtain ⟨x0,x1,x2,x3,x4,x5,x6,x7,x8,x9,x10⟩:=zj st.box;(go_wp2_with fail);clear hwa x0 x1 x2 x3 x4 x5 x6 x7 x8 x9 x10;refine (zaJ o2 p2 l2 _ 2 2 [1,4] B.word (w.heap.size+1) _ st.own (zQ (base:=0) (by rw [← zE]; exact zS intF (base:=0) (l:=[1,4]) ka rfl (Nat.zero_le _) (by simp)) (by intro z hz; simp at hz; omega)) (by omega) (by rw [HLEN.out]; exact HSM) st.base).mono ?_;rintro e v3 ⟨o3,p3,y,rfl,hy,hO,hbz⟩;have st:=st.next hbz hO;have hd:(l2++[y]).map BI.d=[nameD B.name,numD [1,2] B.ticks,numD [1,3] B.parse,numD [1,4] B.word]:=by rw [List.map_append,hd]; rw [List.map_singleton,hy]; rfl
  have HLL:Hid ((l2++[y]).length=l2.length+1):=hide (by simp);clear hy hO hbz ka HLEN;clear ba HSM;rw [← HLL.out];generalize l2++[y]=l3 at *;clear HLL;have HLEN:=hide (d_len hd);have HSM:[nameD B.name,numD [1,2] B.ticks,numD [1,3] B.parse,numD [1,4] B.word].length≤1000:=by simp
  generalize hwa:v3.alloc (Obj.cells #[.int .i64 1,.int .i64 5] 3)=wa;have ba:=zb hwa;have ka:=zk hwa;have st:=st.later ba;obtain ⟨x0,x1,x2,x3,x4,x5,x6,x7,x8,x9,x10⟩:=zj st.box;(go_wp2_with fail);clear hwa x0 x1 x2 x3 x4 x5 x6 x7 x8 x9 x10;refine (zaJ o3 p3 l3 _ 2 2 [1,5] B.drops (w.heap.size+1) _ st.own (zQ (base:=0) (by rw [← zE]; exact zS intF (base:=0) (l:=[1,5]) ka rfl (Nat.zero_le _) (by simp)) (by intro z hz; simp at hz; omega)) (by omega) (by rw [HLEN.out]; exact HSM) st.base).mono ?_;rintro e v4 ⟨o4,p4,y,rfl,hy,hO,hbz⟩;have st:=st.next hbz hO;have hd:(l3++[y]).map BI.d=[nameD B.name,numD [1,2] B.ticks,numD [1,3] B.parse,numD [1,4] B.word,numD [1,5] B.drops]:=by rw [List.map_append,hd]; rw [List.map_singleton,hy]; rfl
  have HLL:Hid ((l3++[y]).length=l3.length+1):=hide (by simp);clear hy hO hbz ka HLEN;clear ba HSM;rw [← HLL.out];generalize l3++[y]=l4 at *;clear HLL;obtain ⟨x0,x1,x2,x3,x4,x5,x6,x7,x8,x9,x10⟩:=zj st.box;(go_wp2_with fail);clear x0 x1 x2 x3 x4 x5 x6 x7 x8 x9 x10
  go_loopw [3,4,5] (fun v3 vc u5 wr=>∃(k:Nat) (ao:Option Addr) (cap:Nat) (l:List BI),v3=.slice ao l.length cap∧vc=.int .i64 ((k:Int)+1)∧k≤4∧l.map BI.d=zam B++zY (zZ B) k∧MbSt w wr #[.int .i64 B.id,.string B.name,.slice a n c,.slice fa fn fc,.slice ra rn rc,.slice oa on oc,.int .i64 B.ticks,.int .i64 B.parse,.int .i64 B.word,.int .i64 B.drops,.int .i64 B.vers] ao cap l) (fun _ vc _ _=>6 - (intOf vc).toNat)
  case atStart=>exact ⟨0,o4,p4,l4,rfl,rfl,Nat.zero_le _,by rw [hd]; simp [zY,zam],st⟩
  case round =>
   clear st hd;obtain ⟨k,ao,cap,l,rfl,rfl,hk,hd,st⟩:=hrel;obtain ⟨x0,x1,x2,x3,x4,x5,x6,x7,x8,x9,x10⟩:=zj st.box;by_cases hk4:k < 4
   ·have hk4':(k:Int)+1≤4:=by omega
    have HDK:=hide hd;(go_wp2_with fail)
    go_loopw [3,5] (fun v3 vp wr=>∃(p:Nat) (ao:Option Addr) (cap:Nat) (l:List BI),v3=.slice ao l.length cap∧vp=.int .i64 (p:Int)∧p≤n∧l.map BI.d=zam B++zY (zZ B) k++zao (portB B ((k:Int)+1)) B.ports p∧MbSt w wr #[.int .i64 B.id,.string B.name,.slice a n c,.slice fa fn fc,.slice ra rn rc,.slice oa on oc,.int .i64 B.ticks,.int .i64 B.parse,.int .i64 B.word,.int .i64 B.drops,.int .i64 B.vers] ao cap l) (fun _ vp _=>7 - (intOf vp).toNat)
    case atStart=>exact ⟨0,ao,cap,l,rfl,rfl,Nat.zero_le _,by rw [hd]; simp [zao],st⟩
    case round =>
     clear st hd HDK x0 x1 x2 x3 x4 x5 x6 x7 x8 x9 x10;obtain ⟨p,ao,cap,l,rfl,rfl,hp,hd,st⟩:=hrel;obtain ⟨x0,x1,x2,x3,x4,x5,x6,x7,x8,x9,x10⟩:=zj st.box;have ht6:(n:Int)≤6:=by have:=HN.out; have:=HOK.out.p; have:=HOK.out.r; omega
     by_cases hi:p < n
     ·have hi':(p:Int) < (n:Int):=by omega
      obtain ⟨x,hx⟩:∃x,B.ports[p]? = some x:=⟨_,List.getElem?_eq_getElem (by have:=HN.out; omega)⟩;have HX:=hide hx;have HLEN:=hide (d_len hd);have HSM:(zam B++zY (zZ B) k++zao (portB B ((k:Int)+1)) B.ports p).length≤1000:=by
       have h1:=zaQ (g:=zZ B) (m:=6) (fun c=>Nat.le_trans (zap _ _ _) HOK.out.p) k;have h2:=zap (portB B ((k:Int)+1)) B.ports p;rw [List.length_append,List.length_append]
       have:(zam B).length=5:=rfl
       have:=HOK.out.p
       have:=HN.out.1
       omega
      generalize hwa:wr.alloc (Obj.cells #[.int .i64 2,.int .i64 ((k:Int)+1),.int .i64 ((p:Int)+1)] 3)=wa;have ba:=zb hwa;have ka:=zk hwa;have st:=st.later ba;obtain ⟨y0,y1,y2,y3,y4,y5,y6,y7,y8,y9,y10⟩:=zj st.box;(go_wp2_with fail);clear hwa x0 x1 x2 x3 x4 x5 x6 x7 x8 x9 x10 y0 y1 y2 y3 y4 y5 y6 y7 y8 y9 y10 ba;refine (zet a n c fa fn fc ra rn rc oa on oc B ((k:Int)+1) p x _ (HH.out.below st.below) hx (by have:=HN.out; have:=HOK.out.o; omega)).mono ?_;rintro e wb ⟨rfl,hbb⟩;have ka:=ze ka hbb;have st:=st.later hbb;clear hbb hx;(go_wp2_with fail);refine (zaJ ao cap l _ 3 3 [2,(k:Int)+1,(p:Int)+1] _ (w.heap.size+1) _ st.own (zQ (base:=0) (by rw [← zE]; exact zS intF (base:=0) (l:=[2,(k:Int)+1,(p:Int)+1]) ka rfl (Nat.zero_le _) (by simp)) (by intro z hz; simp at hz; omega)) (by omega) (by rw [HLEN.out]; exact HSM) st.base).mono ?_;rintro e wd ⟨ao2,cap2,y,rfl,hy,hO,hbz⟩;have st:=st.next hbz hO;have hd:(l++[y]).map BI.d=zam B++zY (zZ B) k++zao (portB B ((k:Int)+1)) B.ports (p+1):=by rw [List.map_append,hd]; rw [List.map_singleton,hy,zbL HX.out,← List.append_assoc]; rfl
      have HLL:Hid ((l++[y]).length=l.length+1):=hide (by simp);clear hy hO hbz ka HLEN;have HST:=hide st;have HD:=hide hd;clear st hd HSM;go_wp2
      go_roundw
      case rel=>exact ⟨p+1,ao2,cap2,l++[y],by rw [HLL.out],by go_num,by omega,HD.out,HST.out⟩
      case measure=>simp [intOf]; omega
     ·have hi':¬(p:Int) < (n:Int):=by omega
      have hpn:p=n:=by omega
      have HD:Hid (l.map BI.d=zam B++zY (zZ B) (k+1)):=hide (by
       rw [hd,hpn,show zY (zZ B) (k+1)=zY (zZ B) k++zZ B ((k:Int)+1) from rfl,show zZ B ((k:Int)+1)=zao (portB B ((k:Int)+1)) B.ports n by rw [HN.out.1]; rfl,← List.append_assoc])
      have HST:=hide st;clear st hd hpn;go_wp2
      go_roundw
      case rel=>exact ⟨k+1,ao,cap,l,rfl,by go_num,by omega,HD.out,HST.out⟩
      case measure=>simp [intOf]; omega
   ·have hk4':¬(k:Int)+1≤4:=by omega
    have hke:k=4:=by omega
    subst hke;(go_wp2_with fail)
    go_loopw [3,6,7] (fun v3 vc u7 wr=>∃(k:Nat) (ao:Option Addr) (cap:Nat) (l:List BI),v3=.slice ao l.length cap∧vc=.int .i64 ((k:Int)+1)∧k≤3∧l.map BI.d=zam B++zY (zZ B) 4++zY (zaC B) k∧MbSt w wr #[.int .i64 B.id,.string B.name,.slice a n c,.slice fa fn fc,.slice ra rn rc,.slice oa on oc,.int .i64 B.ticks,.int .i64 B.parse,.int .i64 B.word,.int .i64 B.drops,.int .i64 B.vers] ao cap l) (fun _ vc _ _=>5 - (intOf vc).toNat)
    case atStart=>exact ⟨0,ao,cap,l,rfl,rfl,Nat.zero_le _,by rw [hd]; simp [zY],st⟩
    case round =>
     clear st hd;obtain ⟨k,ao,cap,l,rfl,rfl,hk,hd,st⟩:=hrel;obtain ⟨x0,x1,x2,x3,x4,x5,x6,x7,x8,x9,x10⟩:=zj st.box;by_cases hk4:k < 3
     ·have hk4':(k:Int)+1≤3:=by omega
      have HDK:=hide hd;(go_wp2_with fail)
      go_loopw [3,7] (fun v3 vp wr=>∃(i:Nat) (ao:Option Addr) (cap:Nat) (l:List BI),v3=.slice ao l.length cap∧vp=.int .i64 (i:Int)∧i≤rn∧l.map BI.d=zam B++zY (zZ B) 4++zY (zaC B) k++zao (rowB ((k:Int)+1)) B.v.rows i∧MbSt w wr #[.int .i64 B.id,.string B.name,.slice a n c,.slice fa fn fc,.slice ra rn rc,.slice oa on oc,.int .i64 B.ticks,.int .i64 B.parse,.int .i64 B.word,.int .i64 B.drops,.int .i64 B.vers] ao cap l) (fun _ vp _=>7 - (intOf vp).toNat)
      case atStart=>exact ⟨0,ao,cap,l,rfl,rfl,Nat.zero_le _,by rw [hd]; simp [zao],st⟩
      case round =>
       clear st hd HDK x0 x1 x2 x3 x4 x5 x6 x7 x8 x9 x10;obtain ⟨i,ao,cap,l,rfl,rfl,hp,hd,st⟩:=hrel;obtain ⟨x0,x1,x2,x3,x4,x5,x6,x7,x8,x9,x10⟩:=zj st.box;have ht6:(rn:Int)≤6:=by have:=HN.out; have:=HOK.out.p; have:=HOK.out.r; omega
       by_cases hi:i < rn
       ·have hi':(i:Int) < (rn:Int):=by omega
        obtain ⟨r,rb,ro,hx,hra,r0,r1,r2⟩:=zaD (HH.out.v.rows.below st.below) i hi;have hrb:rb < w.heap.size:=by
         obtain ⟨_,_,_,hx2,hra2,q0,-⟩:=zaD HH.out.v.rows i hi;rw [hra] at hra2;cases hra2;exact zp q0
        have HX:=hide hx;have hri:=HOK.out.ri r (List.mem_of_getElem? hx);rw [hra] at x4;have i1:(0:Int)≤(i:Int):=by omega
        have i2:(i:Int) < (rn:Int):=by omega
        have HSM:(zam B++zY (zZ B) 4++zY (zaC B) k++zao (rowB ((k:Int)+1)) B.v.rows i).length≤1000:=by
         have h1:=zaQ (g:=zZ B) (m:=6) (fun c=>Nat.le_trans (zap _ _ _) HOK.out.p) 4;have h2:=zaQ (g:=zaC B) (m:=6) (fun c=>Nat.le_trans (zap _ _ _) HOK.out.r) k;have h3:=zap (rowB ((k:Int)+1)) B.v.rows i;simp only [List.length_append]
         have:(zam B).length=5:=rfl
         have q1:=HOK.out.r;have q2:=HN.out.2.1;omega
        have hbase:=st.base;have HS:Hid (∀W,Below (w.heap.size+1) wr W→zcc W w.heap.size 4 (.slice (some ⟨rb,ro,none⟩) rn rc)∧(zcc W rb (ro+i*3) (.int .i64 r.i)∧zcc W rb (ro+i*3+1) (.int .i64 r.m)∧zcc W rb (ro+i*3+2) (.int .i64 r.b))):=hide (fun W hW=>⟨(hW.cell (show w.heap.size < w.heap.size+1 from Nat.lt_succ_self _)).trans x4,(hW.cell (show rb < w.heap.size+1 from Nat.lt_succ_of_lt hrb)).trans r0,(hW.cell (show rb < w.heap.size+1 from Nat.lt_succ_of_lt hrb)).trans r1,(hW.cell (show rb < w.heap.size+1 from Nat.lt_succ_of_lt hrb)).trans r2⟩);have vv:Below wr.heap.size wr wr.drew:=zv (Below.refl _ _);have hkk:k < 3:=by omega
        clear hx hra;(go_upto_region 21 with fail);clear x0 x1 x2 x3 x4 x5 x6 x7 x8 x9 x10 r0 r1 r2;refine wp_region_held_drew (S:=(fun W=>zcc W w.heap.size 4 (.slice (some ⟨rb,ro,none⟩) rn rc)∧(zcc W rb (ro+i*3) (.int .i64 r.i)∧zcc W rb (ro+i*3+1) (.int .i64 r.m)∧zcc W rb (ro+i*3+2) (.int .i64 r.b)))) (by kernel_rfl) ((by first | exact HS.out _ vb | exact HS.out _ (vv.mono hbase))) (fun hHeld => ?_)
        repeat' first
        |
         with_reducible refine kLa ?_
         first
         |
          refine kLf 0 ?_;refine kK 0 ?_
         |
          refine kLf 1 ?_;refine kK 1 ?_
         |
          refine kLf 2 ?_;refine kK 2 ?_
         |
          refine kLf 3 ?_;refine kK 3 ?_
         |
          refine kLf 4 ?_;refine kK 4 ?_
         |
          refine kLf 5 ?_;refine kK 5 ?_
         |
          refine kLf 6 ?_;refine kK 6 ?_
         |
          refine kLf 7 ?_;refine kK 7 ?_
         |
          refine kLf 8 ?_;refine kK 8 ?_
         |
          refine kLf 10 ?_;refine kK 10 ?_
         |
          refine kLf 11 ?_;refine kK 11 ?_
         |
          refine kLf 12 ?_;refine kK 12 ?_
         |
          refine kLf 13 ?_;refine kK 13 ?_
         |
          refine kLf 14 ?_;refine kK 14 ?_
         |
          refine kLf 15 ?_;refine kK 15 ?_
         |
          refine kLf 16 ?_;refine kK 16 ?_
         |
          refine kLf 19 ?_;refine kK 19 ?_
         |
          refine kLp [9,17] ?_
         |
          refine kLp [17] ?_
         |
          refine kLp [18] ?_
         |
          refine kLp [9] ?_
         |
          refine wpAnyH_done (by kernel_rfl) ?_ _;have HST:=hide st;have HD:=hide hd;clear hHeld st hd vv vb;go_wp2
          go_roundw
          case rel=>exact ⟨i+1,ao2,cap2,l++[y],by rw [HLL.out],by go_num,by omega,HD.out,HST.out⟩
          case measure=>simp [intOf]; omega
        |
         exact AllReadyH.nil
        |
         refine kLc 9 (fun K hK => ?_) ?_;go_simp
         first
         | refine zaO (K:=K _) (fun wa ka hbx => ?_)
         | refine zaB (K:=K _) (fun wa ka hbx => ?_)
         have vv:=zd vv hbx;clear hbx;refine kO hK ((by first | exact HS.out _ vb | exact HS.out _ (vv.mono hbase))) fun hHeld => ?_
         clear hK K
        |
         refine kLc 17 (fun K hK => ?_) ?_;go_simp;refine (zfa r ((k:Int)+1) _).mono ?_;rintro e wb ⟨rfl,hbb⟩;(try have ka:=ze ka hbb);have vv:=zd vv hbb;clear hbb;(go_wp2_with fail);refine kO hK ((by first | exact HS.out _ vb | exact HS.out _ (vv.mono hbase))) fun hHeld => ?_
         clear hK K
        |
         refine kLc 18 (fun K hK => ?_) ?_;go_simp;have st:=st.later vv;have HLEN:=hide (d_len hd);refine (zaJ ao cap l _ 3 3 [3,(k:Int)+1,r.i] _ (w.heap.size+1) _ st.own (zQ (base:=0) (by rw [← zE]; exact zS intF (base:=0) (l:=[3,(k:Int)+1,r.i]) ka rfl (Nat.zero_le _) (by simp)) (by intro z hz; simp at hz; omega)) (by omega) (by rw [HLEN.out]; exact HSM) st.base).mono ?_;rintro e wd ⟨ao2,cap2,y,rfl,hy,hO,hbz⟩;have st:=st.next hbz hO;have vb:=(vv.mono hbase).trans hbz;have hd:(l++[y]).map BI.d=zam B++zY (zZ B) 4++zY (zaC B) k++zao (rowB ((k:Int)+1)) B.v.rows (i+1):=by rw [List.map_append,hd,List.map_singleton,hy,zbL HX.out,← List.append_assoc]; rfl
         have HLL:Hid ((l++[y]).length=l.length+1):=hide (by simp);clear hy hO hbz HLEN;(go_wp2_with fail);refine kO hK ((by first | exact HS.out _ vb | exact HS.out _ (vv.mono hbase))) fun hHeld => ?_
         clear hK K
       ·have hi':¬(i:Int) < (rn:Int):=by omega
        have hpn:i=rn:=by omega
        have HD:Hid (l.map BI.d=zam B++zY (zZ B) 4++zY (zaC B) (k+1)):=hide (by
         rw [hd,hpn,show zY (zaC B) (k+1)=zY (zaC B) k++zaC B ((k:Int)+1) from rfl,show zaC B ((k:Int)+1)=zao (rowB ((k:Int)+1)) B.v.rows rn by rw [HN.out.2.1]; rfl,← List.append_assoc])
        have HST:=hide st;clear st hd hpn;go_wp2
        go_roundw
        case rel=>exact ⟨k+1,ao,cap,l,rfl,by go_num,by omega,HD.out,HST.out⟩
        case measure=>simp [intOf]; omega
     ·have hk4':¬(k:Int)+1≤3:=by omega
      have hke:k=3:=by omega
      subst hke;(go_wp2_with fail)
      go_loopw [3,8] (fun v3 vi wr=>∃(i:Nat) (ao:Option Addr) (cap:Nat) (l:List BI),v3=.slice ao l.length cap∧vi=.int .i64 (i:Int)∧i≤fn∧l.map BI.d=zam B++zY (zZ B) 4++zY (zaC B) 3++zao entB B.f i∧MbSt w wr #[.int .i64 B.id,.string B.name,.slice a n c,.slice fa fn fc,.slice ra rn rc,.slice oa on oc,.int .i64 B.ticks,.int .i64 B.parse,.int .i64 B.word,.int .i64 B.drops,.int .i64 B.vers] ao cap l) (fun _ vi _=>13 - (intOf vi).toNat)
      case atStart=>exact ⟨0,ao,cap,l,rfl,rfl,Nat.zero_le _,by rw [hd]; simp [zao],st⟩
      case round =>
       clear st hd x0 x1 x2 x3 x4 x5 x6 x7 x8 x9 x10;obtain ⟨i,ao,cap,l,rfl,rfl,hp,hd,st⟩:=hrel;obtain ⟨x0,x1,x2,x3,x4,x5,x6,x7,x8,x9,x10⟩:=zj st.box;have ht6:(fn:Int)≤12:=by have:=HN.out; have:=HOK.out.f; omega
       by_cases hi:i < fn
       ·have hi':(i:Int) < (fn:Int):=by omega
        obtain ⟨r,rb,ro,hx,hra,r0,r1,r2,-⟩:=zaP (HH.out.f.below st.below) i hi;have hrb:rb < w.heap.size:=by
         obtain ⟨_,_,_,hx2,hra2,q0,-⟩:=zaP HH.out.f i hi;rw [hra] at hra2;cases hra2;exact zp q0
        have HX:=hide hx;have hri:=HOK.out.fi r (List.mem_of_getElem? hx);have hwp:IntKind.i64.wrap (r.p+1)=r.p+1:=by rw [IntKind.wrap_i64]; omega
        rw [hra] at x3;have i1:(0:Int)≤(i:Int):=by omega
        have i2:(i:Int) < (fn:Int):=by omega
        have HSM:(zam B++zY (zZ B) 4++zY (zaC B) 3++zao entB B.f i).length≤1000:=by
         have h1:=zaQ (g:=zZ B) (m:=6) (fun c=>Nat.le_trans (zap _ _ _) HOK.out.p) 4;have h2:=zaQ (g:=zaC B) (m:=6) (fun c=>Nat.le_trans (zap _ _ _) HOK.out.r) 3;have h3:=zap entB B.f i;simp only [List.length_append]
         have:(zam B).length=5:=rfl
         have q1:=HOK.out.f;have q2:=HN.out.2.2.1;omega
        have hbase:=st.base;have HS:Hid (∀W,Below (w.heap.size+1) wr W→zcc W w.heap.size 3 (.slice (some ⟨rb,ro,none⟩) fn fc)∧(zcc W rb (ro+i*5) (.int .i64 r.t)∧zcc W rb (ro+i*5+1) (.int .i64 r.m)∧zcc W rb (ro+i*5+2) (.int .i64 r.p))):=hide (fun W hW=>⟨(hW.cell (show w.heap.size < w.heap.size+1 from Nat.lt_succ_self _)).trans x3,(hW.cell (show rb < w.heap.size+1 from Nat.lt_succ_of_lt hrb)).trans r0,(hW.cell (show rb < w.heap.size+1 from Nat.lt_succ_of_lt hrb)).trans r1,(hW.cell (show rb < w.heap.size+1 from Nat.lt_succ_of_lt hrb)).trans r2⟩);have vv:Below wr.heap.size wr wr.drew:=zv (Below.refl _ _);clear hx hra;(go_upto_region 25 with fail);clear x0 x1 x2 x3 x4 x5 x6 x7 x8 x9 x10 r0 r1 r2;refine wp_region_held_drew (S:=(fun W=>zcc W w.heap.size 3 (.slice (some ⟨rb,ro,none⟩) fn fc)∧(zcc W rb (ro+i*5) (.int .i64 r.t)∧zcc W rb (ro+i*5+1) (.int .i64 r.m)∧zcc W rb (ro+i*5+2) (.int .i64 r.p)))) (by kernel_rfl) ((by first | exact HS.out _ vb | exact HS.out _ (vv.mono hbase))) (fun hHeld => ?_);refine kK 0 ?_;refine kK 1 ?_;refine kK 2 ?_;refine kK 3 ?_;refine kK 4 ?_;refine kK 5 ?_;refine kK 6 ?_;refine kK 7 ?_;refine kK 8 ?_;refine kK 9 ?_;refine kK 10 ?_;refine kK 11 ?_;refine kK 12 ?_;refine kK 14 ?_;refine kK 15 ?_;refine kK 16 ?_;refine kK 17 ?_;refine kK 18 ?_;refine kK 19 ?_;refine kK 20 ?_;refine kR 13 fun K hK => ?_
        go_simp
        first
        | refine zaO (K:=K _) (fun wa ka hbx => ?_)
        | refine zaB (K:=K _) (fun wa ka hbx => ?_)
        have vv:=zd vv hbx;clear hbx;refine kO hK ((by first | exact HS.out _ vb | exact HS.out _ (vv.mono hbase))) fun hHeld => ?_
        clear hK K;refine kR 21 fun K hK => ?_
        go_simp;have st:=st.later vv;have HLEN:=hide (d_len hd);refine (zaJ ao cap l _ 4 4 [4,1,r.t,r.m] _ (w.heap.size+1) _ st.own (zQ (base:=0) (by rw [← zE]; exact zS intF (base:=0) (l:=[4,1,r.t,r.m]) ka rfl (Nat.zero_le _) (by simp)) (by intro z hz; simp at hz; omega)) (by omega) (by rw [HLEN.out]; exact HSM) st.base).mono ?_;rintro e wd ⟨ao2,cap2,y,rfl,hy,hO,hbz⟩;have st:=st.next hbz hO;have vb:=(vv.mono hbase).trans hbz;have hd:(l++[y]).map BI.d=zam B++zY (zZ B) 4++zY (zaC B) 3++zao entB B.f (i+1):=by rw [List.map_append,hd,List.map_singleton,hy,zbL HX.out,← List.append_assoc]; rfl
        have HLL:Hid ((l++[y]).length=l.length+1):=hide (by simp);clear hy hO hbz HLEN;(go_wp2_with fail);refine kO hK ((by first | exact HS.out _ vb | exact HS.out _ (vv.mono hbase))) fun hHeld => ?_
        clear hK K;refine kK 22 ?_;refine wpAnyH_done (by kernel_rfl) ?_ _;have HST:=hide st;have HD:=hide hd;clear hHeld st hd vv vb;go_wp2
        go_roundw
        case rel=>exact ⟨i+1,ao2,cap2,l++[y],by rw [HLL.out],by go_num,by omega,HD.out,HST.out⟩
        case measure=>simp [intOf]; omega
       ·have hi':¬(i:Int) < (fn:Int):=by omega
        have hin:i=fn:=by omega
        have HD:Hid (l.map BI.d=zaf B):=hide (by
         rw [HM.out,hd,hin];unfold zbS;rw [show zdt B=zao entB B.f fn by rw [HN.out.2.2.1]; rfl])
        have HO:=hide (st.own.lt (Nat.le_succ _));have HB:=hide st.below;clear st hd hin;go_wp2;go_ret;exact ⟨ao,cap,l,rfl,HD.out,HO.out,HB.out⟩

end

section
open Go.RowKit

structure Tails (w:World) (base:Nat) (ao:Option Addr) (cap:Nat) (l:List TL):Prop where
 row:w.ownsRow base 27 1 (.slice ao l.length cap) l.length (tlF.all l)
 item:∀t∈l,w.ownsRow base 3 1 (.slice t.a t.n t.c) t.n (cI t.z)∧I64s t.z∧t.n≤2

section
variable {w w' w1:World} {base:Nat} {ao ao':Option Addr} {cap cap':Nat} {l:List TL} {y:TL}
theorem Tails.below (h:Tails w base ao cap l) (hb:Below w.heap.size w w'):Tails w' base ao cap l:=⟨zm h.row hb,fun t ht=>⟨zaY (h.item t ht).1 hb,(h.item t ht).2⟩⟩
theorem Tails.push (h:Tails w base ao cap l) (hb:Below w.heap.size w w1) (hy:w1.ownsRow w.heap.size 3 1 (.slice y.a y.n y.c) y.n (cI y.z)) (hz:I64s y.z) (hn:y.n≤2) (hbs:base≤w.heap.size)
  (hg:w1.grownBy w' (Value.slice ao l.length cap).ownBlock) (hr:w'.ownsRow base 27 1 (.slice ao' (l++[y]).length cap') (l++[y]).length (tlF.all (l++[y]))):Tails w' base ao' cap' (l++[y]):=by
 have hne:(3:Nat)≠27:=by decide
 have h1:=h.below hb;refine ⟨hr,fun t ht => ?_⟩;rcases List.mem_append.1 ht with ht | ht
 ·exact ⟨zah (h1.item t ht).1 h1.row hne hg,(h1.item t ht).2⟩
 ·rw [List.mem_singleton.1 ht];exact ⟨zaS (zah hy h1.row hne hg) hbs,hz,hn⟩
theorem zgv {W:World} {X:Nat} {c0 c1 c2:Value} {T:TypeId} {K:World→Prop} (hk:W.heap[X]? = some (.cells #[c0,c1,c2] T)) (v0 v1 v2:Value) (h:∀wq,wq.heap[X]? = some (.cells #[v0,v1,v2] T)→W.grownBy wq (some X)→K wq):K (((W.setCell ⟨X,0,none⟩ v0).setCell ⟨X,1,none⟩ v1).setCell ⟨X,2,none⟩ v2):=by
 refine h _ ?_ (zA (zA (zl 0 _) (zl 1 _)) (zl 2 _));have h2:=zt (j:=2) (zt (j:=1) (zt (j:=0) hk v0) v1) v2
 simpa using h2
theorem zdE (w:World) (base:Nat):Tails w base none 0 []:=⟨World.ownsRow_nil _ _ _ _,(by intro t ht; cases ht)⟩
theorem Tails.reads (h:Tails w base ao cap l):GRow tlF w ao l.length cap l∧∀t∈l,IRow w t.a t.n t.c t.z∧t.n≤2 :=
 ⟨zab (F:=tlF) h.row,fun t ht=>⟨zQ (h.item t ht).1 (h.item t ht).2.1,(h.item t ht).2.2⟩⟩
end

theorem zbI {w w':World} {cl:List CF} {tn:Nat} {G:Nat→Nat→BD} {ao:Option Addr} {cap:Nat} {l:List TH} (st:CoSt w w' cl tn G ao cap l)
  (H:∀(i:Nat) (c:CF),cl[i]? = some c→(∀args w,(callFunc c.f args).run Tryz.prog w=.ok (.enter c.f args) w)∧∀j,j < tn→∀w2,Below w'.heap.size w' w2→Tells w2 c.f c.caps j (G i j).K (G i j).N (G i j).S)
  (Hz:∀i j,(G i j).z=[]∧(G i j).S.size≤maxLen) {base:Nat} (hbs:base≤w.heap.size):Things w' base ao cap l:=by
 refine ⟨zab (F:=thF) st.row,st.names.lt hbs, ?_, ?_⟩
 ·intro x hx w2 hw2;obtain ⟨i,j,c,hc,hj,hd,kw,kp⟩:=st.box x hx;obtain ⟨he,ht⟩:=H i c hc;have kw2:=ze kw hw2;have kp2:=ze kp hw2;rw [hd];exact zhH c.f c.caps j _ _ _ x.wb x.pb w2 (fun w3 hw3=>ht j hj w3 (zd hw2 hw3)) (by simp [World.cell?,kw2]) (by simp [World.cell?,kp2]) he
 ·intro x hx;obtain ⟨i,j,c,-,-,hd,-,-⟩:=st.box x hx;have h1:=(st.names.item x hx).1
  simp [cI] at h1
  rw [hd] at h1 ⊢;exact ⟨(Hz i j).1,(Hz i j).2,h1.symm⟩

def ownG (B:BR) (i _j:Nat):BD:=match i with
 | 0=>nameD B.name
 | 1=>numD [1,2] B.ticks
 | 2=>numD [1,3] B.parse
 | 3=>numD [1,4] B.word
 | _=>numD [1,(i:Int)+1] B.drops
def portG (B:BR) (i j:Nat):BD:=match B.ports[j]? with
 | some x=>portB B ((i:Int)+1) j x
 | none=>numD [2,(i:Int)+1,(j:Int)+1] 0
def rowG (B:BR) (i j:Nat):BD:=match B.v.rows[j]? with
 | some x=>rowB ((i:Int)+1) j x
 | none=>numD [] 0
def entG (B:BR) (i j:Nat):BD:=match B.f[j]? with
 | some x=>⟨nmI [4,(i:Int)+1,x.t,x.m],2,x.p+1,⟨#[]⟩,[]⟩
 | none=>numD [] 0

theorem zje (B:BR):zbs (ownG B) 1 5=zam B:=rfl
theorem zhp (B:BR):zbs (portG B) B.ports.length 4=zY (zZ B) 4 :=
 zdf (fun i=>zc3 (f:=portB B ((i:Int)+1)) (fun j x hx=>by unfold portG; rw [hx]) _ (Nat.le_refl _)) 4
theorem zik (B:BR):zbs (rowG B) B.v.rows.length 3=zY (zaC B) 3 :=
 zdf (fun i=>zc3 (f:=rowB ((i:Int)+1)) (fun j x hx=>by unfold rowG; rw [hx]) _ (Nat.le_refl _)) 3
theorem zhQ (B:BR):zbs (entG B) B.f.length 1=zdt B:=by
 show []++rowTo (entG B 0) B.f.length=zao entB B.f B.f.length
 rw [List.nil_append];exact zc3 (f:=entB) (fun j x hx=>by unfold entG; rw [hx]; rfl) _ (Nat.le_refl _)

theorem zeL (a:Option Addr) (n c:Nat) (fa:Option Addr) (fn fc:Nat) (ra:Option Addr) (rn rc:Nat) (oa:Option Addr) (on oc:Nat) (B:BR) (w:World) (h:BrRow w a n c fa fn fc ra rn rc oa on oc B) (hnm:B.name.size≤maxLen) :
  Calls Tryz.prog 192 #[.agg #[.int .i64 B.id,.string B.name,.slice a n c,.slice fa fn fc,.slice ra rn rc,.slice oa on oc,.int .i64 B.ticks,.int .i64 B.parse,.int .i64 B.word,.int .i64 B.drops,.int .i64 B.vers]] w fun e w'=>∃(ao:Option Addr) (cap:Nat) (l:List TH),e=.returned (.slice ao l.length cap)∧l.map TH.d=zam B∧Things w' w.heap.size ao cap l∧Below w.heap.size w w':=by
 generalize hw1:w.alloc (Obj.cells #[.int .i64 B.id,.string B.name,.slice a n c,.slice fa fn fc,.slice ra rn rc,.slice oa on oc,.int .i64 B.ticks,.int .i64 B.parse,.int .i64 B.word,.int .i64 B.drops,.int .i64 B.vers] 31)=w1;have b1:=zb hw1;have k1:=zk hw1;have HNM:=hide hnm;generalize hwt:w1.alloc (Obj.cells #[.slice none 0 0] 27)=wt;have bt:=zb hwt;have kt:=zk hwt;have b1t:=zd b1 bt;have hrow:=zS tlF (base:=w.heap.size) (l:=[⟨none,0,0,[]⟩]) kt rfl b1.size (by simp);have tls:Tails wt w.heap.size (some ⟨w1.heap.size,0,none⟩) 1 [⟨none,0,0,[]⟩]:=⟨hrow,fun t ht=>by rw [List.mem_singleton.1 ht]; exact ⟨World.ownsRow_nil _ _ _ _,(by intro z hz; cases hz),Nat.zero_le _⟩⟩;generalize hwc:wt.alloc (Obj.cells #[.func (.func 237) #[] #[.pointer (some ⟨w.heap.size,0,none⟩)],.func (.func 238) #[] #[.pointer (some ⟨w.heap.size,0,none⟩)],.func (.func 240) #[] #[.pointer (some ⟨w.heap.size,0,none⟩)],.func (.func 241) #[] #[.pointer (some ⟨w.heap.size,0,none⟩)],.func (.func 242) #[] #[.pointer (some ⟨w.heap.size,0,none⟩)]] 61)=wc;have bc:=zb hwc;have kc:=zk hwc;have hcl:=zab (F:=clF) (zS clF (base:=0) (l:=[⟨237,#[.pointer (some ⟨w.heap.size,0,none⟩)]⟩,⟨238,#[.pointer (some ⟨w.heap.size,0,none⟩)]⟩,⟨240,#[.pointer (some ⟨w.heap.size,0,none⟩)]⟩,⟨241,#[.pointer (some ⟨w.heap.size,0,none⟩)]⟩,⟨242,#[.pointer (some ⟨w.heap.size,0,none⟩)]⟩]) kc rfl (Nat.zero_le _) (by simp));have HBS:Hid (w.heap.size≤wc.heap.size):=hide (zd b1t bc).size;have HBC:=hide (zd b1t bc);have HKC:=hide (ze (ze k1 bt) bc);have HH:=hide h;have tlr:=(tls.below bc).reads;clear k1 kt kc b1 bt hrow tls b1t bc;go_enter Tryz.func192,Tryz.ntmps192;go_wp2_with fail
 refine (zaN 1 _ 1 1 [⟨none,0,0,[]⟩] _ 5 [⟨237,#[.pointer (some ⟨w.heap.size,0,none⟩)]⟩,⟨238,#[.pointer (some ⟨w.heap.size,0,none⟩)]⟩,⟨240,#[.pointer (some ⟨w.heap.size,0,none⟩)]⟩,⟨241,#[.pointer (some ⟨w.heap.size,0,none⟩)]⟩,⟨242,#[.pointer (some ⟨w.heap.size,0,none⟩)]⟩] (ownG B) _ tlr.1 tlr.2 (by omega) hcl (by omega) (by omega) ?_).mono ?_
 ·intro i j t ht;have htz:t.z=[]:=by
   cases j with
   | zero=>simp at ht; rw [← ht]
   | succ j=>simp at ht
  rw [htz];unfold ownG
  split <;> rfl
 rintro e w3 ⟨ao,cap,l,rfl,hd,st⟩;have HB:=hide (zd HBC.out st.below);have KB:=hide (ze HKC.out st.below);have HT:Hid (Things w3 w.heap.size ao cap l):=hide (by
  refine zbI st (fun i cf hi => ?_) (fun i j => ?_) HBS.out
  ·have him:i < 5:=(List.getElem?_eq_some_iff.1 hi).1;rcases (show i=0∨i=1∨i=2∨i=3∨i=4 by omega) with rfl | rfl | rfl | rfl | rfl
   ·cases hi;refine ⟨enters_of Tryz.func237 (by kernel_rfl) rfl,fun j hj w2 hw2 => ?_⟩;exact zia a n c fa fn fc ra rn rc oa on oc B (j:Int) w.heap.size w2 (ze KB.out hw2)
   ·cases hi;refine ⟨enters_of Tryz.func238 (by kernel_rfl) rfl,fun j hj w2 hw2 => ?_⟩;exact zib a n c fa fn fc ra rn rc oa on oc B (j:Int) w.heap.size w2 (ze KB.out hw2)
   ·cases hi;refine ⟨enters_of Tryz.func240 (by kernel_rfl) rfl,fun j hj w2 hw2 => ?_⟩;exact zic a n c fa fn fc ra rn rc oa on oc B (j:Int) w.heap.size w2 (ze KB.out hw2)
   ·cases hi;refine ⟨enters_of Tryz.func241 (by kernel_rfl) rfl,fun j hj w2 hw2 => ?_⟩;exact zid a n c fa fn fc ra rn rc oa on oc B (j:Int) w.heap.size w2 (ze KB.out hw2)
   ·cases hi;refine ⟨enters_of Tryz.func242 (by kernel_rfl) rfl,fun j hj w2 hw2 => ?_⟩;exact zie a n c fa fn fc ra rn rc oa on oc B (j:Int) w.heap.size w2 (ze KB.out hw2)
  ·unfold ownG
   split
   ·exact ⟨rfl,HNM.out⟩
   all_goals exact ⟨rfl,Nat.zero_le _⟩
  )
 have HD:=hide hd;clear hd st;go_wp2;go_ret;exact ⟨ao,cap,l,rfl,(by rw [HD.out]; rfl),HT.out,HB.out⟩
 

end

theorem zdK (a:Option Addr) (n c:Nat) (fa:Option Addr) (fn fc:Nat) (ra:Option Addr) (rn rc:Nat) (oa:Option Addr) (on oc:Nat) (B:BR) (w:World) (h:BrRow w a n c fa fn fc ra rn rc oa on oc B) (ok:MbOk B) :
  Calls Tryz.prog 193 #[.agg #[.int .i64 B.id,.string B.name,.slice a n c,.slice fa fn fc,.slice ra rn rc,.slice oa on oc,.int .i64 B.ticks,.int .i64 B.parse,.int .i64 B.word,.int .i64 B.drops,.int .i64 B.vers]] w fun e w'=>∃(ao:Option Addr) (cap:Nat) (l:List TH),e=.returned (.slice ao l.length cap)∧l.map TH.d=zY (zZ B) 4∧Things w' w.heap.size ao cap l∧Below w.heap.size w w':=by
 generalize hw1:w.alloc (Obj.cells #[.int .i64 B.id,.string B.name,.slice a n c,.slice fa fn fc,.slice ra rn rc,.slice oa on oc,.int .i64 B.ticks,.int .i64 B.parse,.int .i64 B.word,.int .i64 B.drops,.int .i64 B.vers] 31)=w1;have b1:=zb hw1;have k1:=zk hw1;have HH:=hide h;have hle:=h.ports.le;have htop:=h.ports.top;unfold maxLen at htop;have HLN:Hid (n=B.ports.length):=hide h.ports.size.symm;have hn12:n≤12:=by have:=h.ports.size; have:=ok.p; have:=ok.r; have:=ok.f; omega
 obtain ⟨x0,x1,x2,x3,x4,x5,x6,x7,x8,x9,x10⟩:=zj k1;go_enter Tryz.func193,Tryz.ntmps193;go_wp2_with fail
 clear x0 x1 x2 x3 x4 x5 x6 x7 x8 x9 x10 hw1
 go_loopw [3,4,8] (fun v3 u4 vj wr=>∃(j:Nat) (ao:Option Addr) (cap:Nat) (l:List TL),v3=.slice ao l.length cap∧vj=.int .i64 (j:Int)∧j≤n∧l.length=j∧(∀(i:Nat) (t:TL) x,l[i]? = some t→B.ports[i]? = some x→t.z=[(i:Int)+1])∧Tails wr w1.heap.size ao cap l∧Below w1.heap.size w1 wr) (fun _ _ vj _=>14 - (intOf vj).toNat)
 case atStart=>exact ⟨0,none,0,[],rfl,rfl,Nat.zero_le _,rfl,(by intro i t x hi; simp at hi),zdE _ _,Below.refl _ _⟩
 case round =>
  obtain ⟨j,ao,cap,l,rfl,rfl,hj,hlj,hz,tls,hb⟩:=hrel;have k2:=ze k1 hb;have hbw:=b1.size;by_cases hjn:j < n
  ·have hjn':(j:Int) < (n:Int):=by omega
   have hj12:(j:Int)≤12:=by omega
   obtain ⟨x,hx⟩:∃x,B.ports[j]? = some x:=⟨_,List.getElem?_eq_getElem (by have:=HLN.out; omega)⟩;have HX:=hide hx;have HZ:=hide hz;have HTL:=hide tls;have HB:=hide hb;have HLJ:=hide hlj;have HBW:Hid (w1.heap.size≤wr.heap.size):=hide hb.size;clear k2 tls hb hz hlj;(go_wp2_with fail);refine (zbT (j:Int) (by omega) _).mono ?_;rintro e w5 ⟨rfl,ew⟩;obtain rfl:=ew.symm;have HBR:Hid (Below wr.heap.size wr wr):=hide (Below.refl _ _);generalize hwa:wr.alloc (Obj.cells #[.int .i64 ((j:Int)+1)] 3)=wa;have ba:=zb hwa;have ka:=zk hwa;generalize hwb:wa.alloc (Obj.cells #[.slice (some ⟨wr.heap.size,0,none⟩) 1 1] 27)=wb;have bb:=zb hwb;obtain ⟨y,hy⟩:∃y:TL,y=⟨some ⟨wr.heap.size,0,none⟩,1,1,[((j:Int)+1)]⟩:=⟨_,rfl⟩;have gone:GRow tlF wb (some ⟨wa.heap.size,0,none⟩) 1 1 [y]:=by rw [← hwb]; exact zau tlF wa y _ _ (by rw [hy]; rfl)
   have HBY:Hid (Below wr.heap.size wr wb):=hide (zd (zd HBR.out ba) bb);have HOY:Hid (wb.ownsRow wr.heap.size 3 1 (.slice y.a y.n y.c) y.n (cI y.z)):=hide (by
    rw [hy]
    have:=zS intF (base:=wr.heap.size) (l:=[((j:Int)+1)]) ka rfl HBR.out.size (by simp)
    rw [← zE];exact zm this bb)
   have HIY:Hid (I64s y.z):=hide (by rw [hy]; intro z hz2; simp at hz2; omega);have HNY:Hid (y.n≤2):=hide (by rw [hy]; show 1≤2; omega);have HYZ:Hid (y.z=[(j:Int)+1]):=hide (by rw [hy]);have hrow:=(HTL.out.below HBY.out).row;have hl12:l.length≤12:=by have:=HLJ.out; omega
   have HBK:Hid (∀k,(Value.slice ao l.length cap).ownBlock=some k→w1.heap.size≤k):=hide (fun k hk=>(HTL.out.row.lt k hk).1);have hbw2:w1.heap.size≤wb.heap.size:=Nat.le_trans HBW.out HBY.out.size;clear ka hy ba bb;go_wp2_with (at_builtin; refine zx (F:=tlF) _ rfl _ _ 283 27 rfl w1.heap.size Tryz.underlying283 zhy rfl (by decide) _ l.length l rfl hrow (some ⟨wa.heap.size,0,none⟩) 1 1 [y] rfl gone (by omega) hbw2 ?_)
   intro ao2 cap2 we how2 _ hgr2 hb2;have HLN2:Hid ((l++[y]).length=l.length+1):=hide (by simp);have HT2:=hide (HTL.out.push (y:=y) HBY.out HOY.out HIY.out HNY.out HBW.out hgr2 (by rw [HLN2.out]; exact how2));have HB2:=hide ((zd HB.out HBY.out).grown hgr2 (Nat.le_trans HB.out.size HBY.out.size) (fun k hk=>HBK.out k hk));clear hrow gone hbw2 how2 hgr2 hb2 hwa hwb;have HZ2:Hid (∀(i:Nat) (t:TL) u,(l++[y])[i]? = some t→B.ports[i]? = some u→t.z=[(i:Int)+1]):=hide (by
    intro i t u hi hu;by_cases hil:i < l.length
    ·rw [List.getElem?_append_left hil] at hi;exact HZ.out i t u hi hu
    ·have hil2:=(List.getElem?_eq_some_iff.1 hi).1;rw [HLN2.out] at hil2;have hij:i=l.length:=by omega
     subst hij
     have:t=y:=by simpa using hi.symm
     rw [this,HYZ.out];rw [← HLJ.out] at HX
     have:=HX.out.symm.trans hu
     cases this;rw [HLJ.out])
   go_wp2
   go_roundw
   case rel=>exact ⟨j+1,ao2,cap2,l++[y],by rw [HLN2.out],by go_num,by omega,by rw [HLN2.out,HLJ.out],HZ2.out,HT2.out,HB2.out⟩
   case measure=>simp [intOf]; omega
  ·have hjn':¬(j:Int) < (n:Int):=by omega
   have hje:l.length=n:=by omega
   have hbs:=Nat.le_trans hbw hb.size;generalize hwc:wr.alloc (Obj.cells #[.func (.func 244) #[] #[.pointer (some ⟨w.heap.size,0,none⟩)],.func (.func 246) #[] #[.pointer (some ⟨w.heap.size,0,none⟩)],.func (.func 247) #[] #[.pointer (some ⟨w.heap.size,0,none⟩)],.func (.func 248) #[] #[.pointer (some ⟨w.heap.size,0,none⟩)]] 61)=wc;have bc:=zb hwc;have kc:=zk hwc;have hcl:=zab (F:=clF) (zS clF (base:=0) (l:=[⟨244,#[.pointer (some ⟨w.heap.size,0,none⟩)]⟩,⟨246,#[.pointer (some ⟨w.heap.size,0,none⟩)]⟩,⟨247,#[.pointer (some ⟨w.heap.size,0,none⟩)]⟩,⟨248,#[.pointer (some ⟨w.heap.size,0,none⟩)]⟩]) kc rfl (Nat.zero_le _) (by simp));have HBS:Hid (w.heap.size≤wc.heap.size):=hide (Nat.le_trans hbs bc.size);have HBC:=hide (zd (zd b1 hb) bc);have HKC:=hide (ze k2 bc);have tlr:=(tls.below bc).reads;have HZ:=hide hz;have hlen:=HLN.out;have HJE:=hide hje;clear k1 k2 kc b1 hb tls bc hz hlj hje;(go_wp2_with fail);refine (zaN 2 _ l.length _ l _ 4 [⟨244,#[.pointer (some ⟨w.heap.size,0,none⟩)]⟩,⟨246,#[.pointer (some ⟨w.heap.size,0,none⟩)]⟩,⟨247,#[.pointer (some ⟨w.heap.size,0,none⟩)]⟩,⟨248,#[.pointer (some ⟨w.heap.size,0,none⟩)]⟩] (portG B) _ tlr.1 tlr.2 (by have:=HJE.out; omega) hcl (by omega) (by omega) ?_).mono ?_
   ·intro i j t ht;obtain ⟨x,hx⟩:∃x,B.ports[j]? = some x:=⟨_,List.getElem?_eq_getElem (by have:=(List.getElem?_eq_some_iff.1 ht).1; have:=HJE.out; omega)⟩;rw [HZ.out j t x ht hx];unfold portG;rw [hx]
    rfl
   rw [HJE.out];rintro e w3 ⟨ao,cap,l,rfl,hd,st⟩;have HB:=hide (zd HBC.out st.below);have KB:=hide (ze HKC.out st.below);have HT:Hid (Things w3 w.heap.size ao cap l):=hide (by
    refine zbI st (fun i cf hi => ?_) (fun i j => ?_) HBS.out
    ·have him:i < 4:=(List.getElem?_eq_some_iff.1 hi).1;rcases (show i=0∨i=1∨i=2∨i=3 by omega) with rfl | rfl | rfl | rfl
     ·cases hi;refine ⟨enters_of Tryz.func244 (by kernel_rfl) rfl,fun j hj w2 hw2 => ?_⟩;obtain ⟨x,hx⟩:∃x,B.ports[j]? = some x:=⟨_,List.getElem?_eq_getElem (by have:=HLN.out; omega)⟩;have hg:portG B 0 j=portB B 1 j x:=by unfold portG; rw [hx]; rfl
      rw [hg];exact zhl a n c fa fn fc ra rn rc oa on oc B j w.heap.size w2 (ze KB.out hw2) (HH.out.ports.below (zd HB.out hw2)) x hx
     ·cases hi;refine ⟨enters_of Tryz.func246 (by kernel_rfl) rfl,fun j hj w2 hw2 => ?_⟩;obtain ⟨x,hx⟩:∃x,B.ports[j]? = some x:=⟨_,List.getElem?_eq_getElem (by have:=HLN.out; omega)⟩;have hg:portG B 1 j=portB B 2 j x:=by unfold portG; rw [hx]; rfl
      rw [hg];exact zhm a n c fa fn fc ra rn rc oa on oc B j w.heap.size w2 (ze KB.out hw2) (HH.out.ports.below (zd HB.out hw2)) x hx
     ·cases hi;refine ⟨enters_of Tryz.func247 (by kernel_rfl) rfl,fun j hj w2 hw2 => ?_⟩;obtain ⟨x,hx⟩:∃x,B.ports[j]? = some x:=⟨_,List.getElem?_eq_getElem (by have:=HLN.out; omega)⟩;have hg:portG B 2 j=portB B 3 j x:=by unfold portG; rw [hx]; rfl
      rw [hg];exact zhn a n c fa fn fc ra rn rc oa on oc B j w.heap.size w2 (ze KB.out hw2) (HH.out.ports.below (zd HB.out hw2)) x
     ·cases hi;refine ⟨enters_of Tryz.func248 (by kernel_rfl) rfl,fun j hj w2 hw2 => ?_⟩;obtain ⟨x,hx⟩:∃x,B.ports[j]? = some x:=⟨_,List.getElem?_eq_getElem (by have:=HLN.out; omega)⟩;have hg:portG B 3 j=portB B 4 j x:=by unfold portG; rw [hx]; rfl
      rw [hg];exact zho a n c fa fn fc ra rn rc oa on oc B j w.heap.size w2 (ze KB.out hw2) (HH.out.v.own.below (zd HB.out hw2)) (by have:=HLN.out; have:=HH.out.v.own.size; have:=ok.o; omega) x
    ·unfold portG
     split
     all_goals exact ⟨rfl,Nat.zero_le _⟩
    )
   have HD:=hide hd;clear hd st;go_wp2;go_ret;exact ⟨ao,cap,l,rfl,(by rw [HD.out,HLN.out]; exact zhp B),HT.out,HB.out⟩
   

end Go.Proofs.YtcpdkcdfnpcemaaGreat
