/-
  Packed: DrawStr FdbEnt DrawOid TextRow MarkText PduMark PduEq VrowHelp ValSame PtHelp Big.
-/
import Derived.Test.YtcpdkcdfnpcemaaGreatPHK05
import Derived.Laws.IdiomStrings
namespace Go.Proofs.YtcpdkcdfnpcemaaGreat
set_option maxRecDepth 100000
set_option maxHeartbeats 16000000
open Go.RowKit

def zeu (N:Nat):Value→Bool
 | .string S=>decide (S.size≤N)
 | _=>false
def strOk (v:Value):Bool:=zeu 30 v

theorem zgF {N:Nat} {v:Value} (h:zeu N v=true):∃S:ByteArray,v=.string S∧S.size≤N:=by
 cases v with
 | string S=>exact ⟨S,rfl,of_decide_eq_true h⟩
 | _=>cases h

theorem zgz (N:Nat) (C:Nat) (a0:Option Addr) (l0 c0:Nat) (z0:List Int) (cs:Array Value) (B n:Nat) (w:World) (hc:Cur w C a0 l0 c0 z0) (hB:B=w.heap.size) (hn:cs.size=n) (hall:cs.all (zeu N)=true) (hn0:0 < n) (hn1:n≤1000) :
  Calls Tryz.prog 106 #[.pointer (some ⟨C,0,none⟩),.slice (some ⟨B,0,none⟩) n n] (w.alloc (.cells cs 9)) fun e w'=>∃S:ByteArray,S.size≤N∧e=.returned (.string S)∧Went w w' C a0 l0 c0 z0:=by
 subst hB;have hb:Below w.heap.size w (w.alloc (.cells cs 9)):=(Below.refl _ _).alloc (Nat.le_refl _) _;have hst:=Went.start hc hb;have hlt:=hc.lt;have hcell:∀j,j < n→∃S:ByteArray,(w.alloc (.cells cs 9)).cell? ⟨w.heap.size,j,none⟩=some (.string S)∧S.size≤N:=by
  intro j hj;have hj':j < cs.size:=by omega
  have h1:zeu N cs[j]=true:=(Array.all_eq_true.1 hall) j hj';obtain ⟨S,e,hS⟩:=zgF h1;refine ⟨S, ?_,hS⟩
  have:(w.alloc (.cells cs 9)).cell? ⟨w.heap.size,j,none⟩=cs[j]? := by simp
  rw [this,Array.getElem?_eq_getElem hj',e]
 have HC:=hide hcell;clear hcell hall;generalize w.alloc (.cells cs 9)=w1 at *;go_enter Tryz.func106,Tryz.ntmps106;go_wp2_with fail
 refine (zI C a0 l0 c0 z0 n _ hst.cur (by omega)).mono ?_;rintro e w2 ⟨x,rfl,hx0,hx1,hx2,went⟩;have hx1:=hx1 (by omega);obtain ⟨j,rfl⟩:∃j:Nat,x=j:=⟨x.toNat,by omega⟩;obtain ⟨S,hS,hSs⟩:=HC.out j (by omega);have cx:w2.cell? ⟨w.heap.size,j,none⟩=some (.string S):=went.grown.cell hS (by intro e; simp at e; omega);clear hS;go_wp2;go_ret;exact ⟨S,hSs,rfl,hst.trans went⟩

theorem ziE {e:FE} (h:entOk e=true):e.Rng:=by
 rw [zeA] at h;exact ⟨by omega,by omega,by omega,by omega⟩

theorem Went.ownI {a b:World} {C:Nat} {a0:Option Addr} {l0 c0:Nat} {z0:List Int} (h:Went a b C a0 l0 c0 z0) {base:Nat} {v:Value} {n:Nat} {xs:List Value} (ho:a.ownsRow base 3 1 v n xs) (hC:C < base):b.ownsRow base 3 1 v n xs :=
 ze0 ho h.grown (by intro k hk; cases hk; exact hC)

def OkNs (zs:List Int):Prop:=∀z∈zs,0≤z∧z≤100000

theorem OkNs.i64 {zs:List Int} (h:OkNs zs):I64s zs:=fun z hz=>by have:=h z hz; omega
theorem OkNs.snoc {zs:List Int} {x:Int} (h:OkNs zs) (hx:0≤x∧x≤100000):OkNs (zs++[x]):=by
 intro z hz;rcases List.mem_append.1 hz with h1 | h1
 ·exact h z h1
 ·simp at h1; rw [h1]; exact hx

def ziQ (w w':World) (C:Nat) (a0:Option Addr) (l0 c0:Nat) (z0:List Int) (lo hi:Nat) (p:List Int→Prop) (e:Ending):Prop :=
 ∃ao n cap zs,e=.returned (.slice ao n cap)∧lo≤n∧n≤hi∧zs.length=n∧p zs∧w'.ownsRow w.heap.size 3 1 (.slice ao n cap) n (cI zs)∧Went w w' C a0 l0 c0 z0

theorem zdw (C:Nat) (a0:Option Addr) (l0 c0:Nat) (z0:List Int) (w:World) (hc:Cur w C a0 l0 c0 z0) :
  Calls Tryz.prog 113 #[.pointer (some ⟨C,0,none⟩)] w fun e w'=>ziQ w w' C a0 l0 c0 z0 1 6 OkNs e:=by
 have hlt:=hc.lt;have hst:=Went.start hc ((Below.refl w.heap.size w).alloc (Nat.le_refl _) (.cells #[] 3));have hown0:(w.alloc (.cells #[] 3)).ownsRow w.heap.size 3 1 (.slice (some ⟨w.heap.size,0,none⟩) 0 0) 0 (cI []):=World.ownsRow_lit w #[] 0 (Nat.le_refl _) (Nat.zero_le _) rfl;go_enter Tryz.func113,Tryz.ntmps113;go_wp2_with fail
 refine (zI C a0 l0 c0 z0 6 _ hst.cur (by omega)).mono ?_;rintro e w1 ⟨x,rfl,hx0,hx1,hx2,went1⟩;have hx6:=hx1 (by omega);obtain ⟨m,rfl⟩:∃m:Nat,x=m:=⟨x.toNat,by omega⟩;have how1:=went1.ownI hown0 hlt;have wn1:=hst.trans went1;clear hx1 hx2 hown0 hst went1;go_wp2
 go_loopw [3,4] (fun v i wr=>∃(k j:Nat) (zs:List Int) (ao:Option Addr) (cap:Nat),k+j=1+m∧i=.int .i64 j∧v=.slice ao k cap∧zs.length=k∧OkNs zs∧wr.ownsRow w.heap.size 3 1 (.slice ao k cap) k (cI zs)∧Went w wr C a0 l0 c0 z0) (fun _ i _=>(intOf i).toNat)
 case atStart=>exact ⟨0,1+m,[],_,_,by omega,by simp,rfl,rfl,(by intro z hz; cases hz),how1,wn1⟩
 case round =>
  obtain ⟨k,j,zs,ao,cap,hk,rfl,rfl,hz,hok,how,went⟩:=hrel;clear how1 wn1;by_cases hj:0 < j
  ·(go_wp2_with fail);refine (zbw C a0 l0 c0 z0 [0,1,2,3,127,128,16384,100000] _ _ wr went.cur rfl rfl (by simp) (by simp)).mono ?_;rintro e w2 ⟨y,hy,rfl,went2⟩;have hy':0≤y∧y≤100000:=by simp at hy; omega
   clear hy;have how2:=went2.ownI how hlt;have wn2:=went.trans went2;have hs2:=wn2.grown.size;clear how went went2;go_wp2_with (at_builtin; refine zcD _ rfl _ _ 27 rfl w.heap.size Tryz.underlying27 Tryz.infoI64 _ k zs rfl (how2.alloc _) hok.i64 _ 1 1 [y] rfl (zh1 w2 y (by omega)) (by omega) (by simp; omega) ?_)
   intro ao3 cp3 w3 how3 row3 hb3;have wn3:Went w w3 C a0 l0 c0 z0:=(wn2.made ((Below.refl _ _).alloc (Nat.le_refl _) _)).madeAt hb3 hlt (Nat.le_refl _);clear how2 hb3 row3;go_wp2
   go_roundw
   case rel=>exact ⟨k+1,j - 1,zs++[y],ao3,cp3,by omega,by go_num,rfl,by simp; omega,hok.snoc hy',how3,wn3⟩
   case measure=>simp [intOf]; omega
  ·have hj0:¬(0:Int) < j:=by omega
   go_wp2;go_ret;exact ⟨ao,k,cap,zs,rfl,by omega,by omega,hz,hok,how,went⟩

theorem IRow.belowAt {w3 w w':World} {ao:Option Addr} {len cap:Nat} {zs:List Int} (h:IRow w ao len cap zs) (h3:IRow w3 ao len cap zs) (hb:Below w3.heap.size w w'):IRow w' ao len cap zs where
 size:=h.size
 le:=h.le
 top:=h.top
 nil:=h.nil
 byte:=h.byte
 cell:=by
  rcases h.cell with h0 | ⟨b,off,ha,hc⟩
  ·exact .inl h0
  ·refine .inr ⟨b,off,ha,fun i hi => ?_⟩;rcases h3.cell with h0 | ⟨b',off',ha',hc'⟩
   ·omega
   ·rw [ha] at ha';cases ha';have h1:b < w3.heap.size:=zp (hc' i hi);rw [hb.cell (p:=⟨b,off+i,none⟩) h1];exact hc i hi

def byB (zs:List Int):ByteArray:=⟨(zs.map fun z=>UInt8.ofNat z.toNat).toArray⟩

theorem zfX (zs:List Int):(byB zs).size=zs.length:=by
 show (zs.map fun z=>UInt8.ofNat z.toNat).toArray.size=_
 rw [List.size_toArray,List.length_map]

theorem zgR {z:Int} (h:0≤z∧z≤255):((UInt8.ofNat z.toNat).toNat:Int)=z:=by
 rw [UInt8.toNat_ofNat'];omega

theorem zhM (dst:TypeId) (w:World) (ao:Option Addr) (l c:Nat) (zs:List Int) (h:Row w ao l c zs) (hd:Tryz.prog.underlying dst=some .string):(convert 22 dst (.slice ao l c)).run Tryz.prog w=.ok (.string (byB zs)) w:=by
 have hl:(zs.map fun z=>UInt8.ofNat z.toNat).length=l:=by rw [List.length_map]; exact h.size
 rcases ao with _ | a
 ·obtain ⟨rfl,rfl⟩:=h.none_zero rfl;have hz:zs=[]:=List.eq_nil_of_length_eq_zero h.size;subst hz;rw [run_convert_bytes_string w 22 dst 5 none 0 0 Tryz.underlying22 Tryz.underlying5 hd]
  rfl
 ·have:=run_convert_bytes_back (P:=Tryz.prog) w 22 dst 5 a c (zs.map fun z=>UInt8.ofNat z.toNat) Tryz.underlying22 Tryz.underlying5 hd (by
   intro j hj;have hj':j < zs.length:=by simpa using hj
   rw [h.news a rfl j _ (zix zs j hj')];have hb:=zeH h.byte j;have e:(zs.map fun z=>UInt8.ofNat z.toNat)[j]=UInt8.ofNat (zs.getD j 0).toNat:=by simp [List.getD_eq_getElem?_getD,hj']
   rw [e,zgR hb])
  rw [hl] at this;exact this

def mtF:Nat→Nat→ByteArray→ByteArray
 | 0,_,out=>out
 | f+1,k,out=>if k=0 then out else mtF f (k / 10) (byB [((48+k % 10:Nat):Int)]++out)
def mtx (k:Int):ByteArray:=⟨#[109]⟩++mtF 20 k.toNat ⟨#[]⟩

theorem zh6 (f:Nat) (out:ByteArray):mtF f 0 out=out:=by cases f <;> simp [mtF]

structure MT (k:Int) (m:Nat) (out:ByteArray):Prop where
 f:∃f,mtF f m out=mtF 20 k.toNat ⟨#[]⟩∧m < 10 ^ f∧out.size+f≤20

theorem MT.next {k:Int} {m:Nat} {out:ByteArray} (h:MT k m out) (hm:0 < m):MT k (m / 10) (byB [((48+m % 10:Nat):Int)]++out):=by
 obtain ⟨f,h1,h2,h3⟩:=h.f;cases f with
 | zero=>simp at h2; omega
 | succ f =>
  refine ⟨f, ?_, ?_, ?_⟩
  ·rw [← h1]
   conv=>rhs; unfold mtF
   rw [if_neg (by omega)]
  ·rw [Nat.pow_succ] at h2; omega
  ·rw [ByteArray.size_append,zfX]; simp; omega
theorem MT.done {k:Int} {out:ByteArray} (h:MT k 0 out):⟨#[109]⟩++out=mtx k:=by
 obtain ⟨f,h1,-,-⟩:=h.f;rw [zh6] at h1;unfold mtx;rw [h1]
theorem MT.small {k:Int} {m:Nat} {out:ByteArray} (h:MT k m out):out.size≤20:=by
 obtain ⟨f,-,-,h3⟩:=h.f; omega

theorem zcM (k:Int) (w:World) (h0:0 < k) (h1:k≤1099511627776) :
  Calls Tryz.prog 102 #[.int .i64 k] w fun e w'=>e=.returned (.string (mtx k))∧(mtx k).size≤21∧Below w.heap.size w w':=by
 have hstart:MT k k.toNat ⟨#[]⟩:=⟨20,rfl,by omega,by simp [ByteArray.size]⟩;have hk0:¬k≤0:=by omega
 go_enter Tryz.func102,Tryz.ntmps102;go_wp2
 go_loopw [0,3] (fun x s wr=>∃(m:Nat) (out:ByteArray),x=.int .i64 m∧s=.string out∧(m:Int)≤k∧MT k m out∧Below w.heap.size w wr) (fun x _ _=>(intOf x).toNat)
 case atStart=>exact ⟨k.toNat,⟨#[]⟩,by rw [Int.toNat_of_nonneg (by omega)],rfl,by omega,hstart,Below.refl _ _⟩
 case round =>
  obtain ⟨m,out,rfl,rfl,hmk,hmt,hb⟩:=hrel;have hsm:=hmt.small;by_cases hm:0 < m
  ·have hnx:=hmt.next hm;have hw0:(m:Int).tdiv 10=((m / 10:Nat):Int):=by rw [Int.tdiv_eq_ediv_of_nonneg (by omega)]; omega
   have hw1:(m:Int).tmod 10=((m % 10:Nat):Int):=by rw [Int.tmod_eq_emod_of_nonneg (by omega)]; omega
   have hd:m % 10 < 10:=Nat.mod_lt _ (by omega);have hcv:=zhM 9 (wr.alloc (.cells #[.int .u8 ((48+m % 10:Nat):Int)] 5)) (some ⟨wr.heap.size,0,none⟩) 1 1 [((48+m % 10:Nat):Int)] (ziO wr _ (by omega)) Tryz.underlying9;have hbs:(byB [((48+m % 10:Nat):Int)]).size=1:=zfX _;have HB:=hide (hb.trans ((zh wr (.cells #[.int .u8 ((48+m % 10:Nat):Int)] 5)).mono hb.size));have HN:=hide hnx;clear hb hnx hstart hmt;generalize hD:((48+m % 10:Nat):Int)=D at *;have hD':48+((m % 10:Nat):Int)=D:=by rw [← hD]; omega
   generalize ((m % 10:Nat):Int)=r at *;generalize hq:m / 10=q at *;go_wp2
   go_roundw
   case rel=>exact ⟨q,_,rfl,rfl,by omega,HN.out,HB.out⟩
   case measure=>simp [intOf]; omega
  ·have hm0:m=0:=by omega
   subst hm0;have HD:=hide hmt.done;have hsz:(ByteArray.mk #[109]++out).size≤21:=by rw [ByteArray.size_append]; have:(ByteArray.mk #[109]).size=1:=rfl; omega
   have HS:=hide hsz;clear hsz hmt;go_wp2;go_ret;exact ⟨by rw [← HD.out]; rfl,by rw [← HD.out]; exact HS.out,hb⟩

def zdn (k:Int) (x:BI):BI:=⟨x.oa,x.on,x.oc,zaI k x.on,k+x.on,k+x.on+1,mtx (k+x.on+1+1),x.za,x.zn,x.zc,zaI (k+x.on+1+1+1) x.zn⟩
def endB (k:Int) (x:BI):Int:=k+x.on+1+1+1+x.zn
def zbc:Int→List BI→List BI
 | _,[]=>[]
 | k,x::r=>zdn k x::zbc (endB k x) r
def endBs:Int→List BI→Int
 | k,[]=>k
 | k,x::r=>endBs (endB k x) r

theorem zft (a:List BI) (x:BI):∀k,zbc k (a++[x])=zbc k a++[zdn (endBs k a) x]:=by
 induction a with
 | nil=>intro k; rfl
 | cons y r ih=>intro k; simp only [List.cons_append,zbc,endBs,ih]
theorem zdR (a:List BI) (x:BI):∀k,endBs k (a++[x])=endB (endBs k a) x:=by
 induction a with
 | nil=>intro k; rfl
 | cons y r ih=>intro k; simp only [List.cons_append,endBs,ih]
theorem zcs (a:List BI):∀k,(zbc k a).length=a.length:=by
 induction a with
 | nil=>intro k; rfl
 | cons y r ih=>intro k; simp only [zbc,List.length_cons,ih]
theorem zcm (a:List BI):∀k,k≤endBs k a∧endBs k a≤k+bulk a+3*a.length:=by
 induction a with
 | nil=>intro k; simp [endBs,bulk]
 | cons y r ih =>
  intro k
  have:=ih (endB k y)
  rw [zc8];unfold endBs;unfold endB at *;unfold BI.wt;simp only [List.length_cons];omega

theorem zeT (k:Int) (n:Nat) (h0:0≤k) (h1:k≤1099511627776) (hn:n≤16777216):I64s (zaI k n):=zds k n h0 h1 hn

theorem zdo (base:Nat) (ao:Option Addr) (n cap:Nat) (l:List BI) (k:Int) (w:World) (hown:BOwns w base ao n cap l) (hs:n+bulk l≤1048576) (hk0:0 < k) (hk1:k≤1000) :
  Calls Tryz.prog 38 #[.slice ao n cap,.int .i64 k] w fun e w'=>e=.returned (.int .i64 (endBs k l))∧BOwns w' base ao n cap (zbc k l)∧Only (allBi ao l) w w':=by
 have hl:=hown.size;have hend:=zcm l k;go_enter Tryz.func38,Tryz.ntmps38;go_wp2
 go_loopw [1,5] (fun m i wr=>∃j:Nat,j≤n∧i=.int .i64 j∧m=.int .i64 (endBs k (l.take j))∧BOwns wr base ao n cap (zbc k (l.take j)++l.drop j)∧Only (allBi ao l) w wr) (fun _ i _=>n - (intOf i).toNat)
 case atStart=>exact ⟨0,Nat.zero_le _,rfl,rfl,by simpa [zbc] using hown,Only.refl _ _⟩
 case round =>
  obtain ⟨j,hj,rfl,rfl,hbo,hon⟩:=hrel;by_cases hlt:j < n
  ·have hx:l[j]? = some l[j]:=List.getElem?_eq_getElem (by omega);generalize l[j]=x at hx;have hw:=zfW (List.mem_of_getElem? hx);unfold BI.wt at hw;have hej:=zcm (l.take j) k;have hbj:=zey l j;have hlj:(l.take j).length≤n:=by rw [List.length_take]; omega
   have hdr:l.drop j=x::l.drop (j+1):=by
    obtain ⟨h,rfl⟩:=List.getElem?_eq_some_iff.1 hx;exact List.drop_eq_getElem_cons h
   have hmx:x∈l:=List.mem_of_getElem? hx;have EQ1:=hide (show zbc k (l.take (j+1))=zbc k (l.take j)++[zdn (endBs k (l.take j)) x] by rw [zcA hx,zft]);have EQ2:=hide (show endBs k (l.take (j+1))=endB (endBs k (l.take j)) x by rw [zcA hx,zdR]);rw [hdr] at hbo;have hpl:(zbc k (l.take j)).length=j:=by rw [zcs,List.length_take]; omega
   generalize endBs k (l.take j)=K0 at *;generalize zbc k (l.take j)=pre at *;generalize hpo:l.drop (j+1)=post at *;have HPO:=hide hpo;clear hpo;subst hpl;have I:=hbo.item x (by simp);obtain ⟨g,hg,⟨a0,a1,a2,a3,a4⟩,-,fz⟩:=hbo.at;subst hg;have hsub:∀b,b∈x.blks∨b=g→b∈allBi (some ⟨g,0,none⟩) l:=by
    intro b hb;rcases hb with hb | rfl
    ·exact List.mem_append_right _ (List.mem_flatMap.2 ⟨x,hmx,hb⟩)
    ·exact List.mem_append_left _ (by simp [blkL])
   have HSUB:=hide hsub;have HBO:=hide hbo;have HON:=hide hon;have IO:=hide I.o;clear hbo hon hsub hdr hx hmx I fz hown;(go_wp2_with fail);refine (zci base x.oa x.on x.oc x.o K0 _ IO.out (by omega) (by omega) (by omega)).mono ?_;rintro e w1 ⟨rfl,ho1,hg1⟩;have B1:=HBO.out.setO hg1 ho1 (zeT _ _ (by omega) (by omega) (by omega));have O1:Only (allBi (some ⟨g,0,none⟩) l) w w1:=HON.out.trans ((Only.of_grown hg1).wider (fun b hb=>HSUB.out b (.inl (List.mem_append_left _ hb))));clear a0 a1 a2 a3 a4 ho1 hg1;obtain ⟨g',hg',⟨a0,a1,a2,a3,a4⟩,-,fz⟩:=B1.at;cases hg';have f1:=fz (pre.length*5+1);have f2:=fz (pre.length*5+2);have B2:=(B1.setK (K0+x.on)).setN (K0+x.on+1);have O2:Only (allBi (some ⟨g,0,none⟩) l) w _:=(O1.trans ((Only.set w1 g (pre.length*5+1) (.int .i64 (K0+x.on))).wider (fun b hb=>HSUB.out b (.inr (by simpa using hb))))).trans ((Only.set _ g (pre.length*5+2) (.int .i64 (K0+x.on+1))).wider (fun b hb=>HSUB.out b (.inr (by simpa using hb))));have HB2:=hide B2;have HO2:=hide O2;clear B1 B2 O1 O2 fz HBO HON IO;(go_wp2_with fail);refine (zcM (K0+x.on+1+1) _ (by omega) (by omega)).mono ?_;rintro e w3 ⟨rfl,hms,hb3⟩;have B3:=HB2.out.below hb3;have O3:=HO2.out.trans (Only.of_below hb3);clear a0 a1 a2 a3 a4 hb3 HB2 HO2 f1 f2;obtain ⟨g',hg',⟨a0,a1,a2,a3,a4⟩,-,fz⟩:=B3.at;cases hg';have f3:=fz (pre.length*5+3);have B4:=B3.setS (mtx (K0+x.on+1+1)) (by unfold maxLen; omega);have O4:=O3.trans ((Only.set w3 g (pre.length*5+3) (.string (mtx (K0+x.on+1+1)))).wider (fun b hb=>HSUB.out b (.inr (by simpa using hb))));have IZ:=hide (B4.item _ (List.mem_append_right _ (List.mem_cons_self ..))).z;have HB4:=hide B4;have HO4:=hide O4;clear B3 B4 O3 O4 fz;(go_wp2_with fail);refine (zci base x.za x.zn x.zc x.z (K0+x.on+1+1+1) _ IZ.out (by omega) (by omega) (by omega)).mono ?_;rintro e w5 ⟨rfl,ho5,hg5⟩;have HB5:=hide (HB4.out.setZ hg5 ho5 (zeT _ _ (by omega) (by omega) (by omega)));have HO5:=hide (HO4.out.trans ((Only.of_grown hg5).wider (fun b hb=>HSUB.out b (.inl (List.mem_append_right _ hb)))));clear a0 a1 a2 a3 a4 f3 ho5 hg5 IZ HB4 HO4;go_wp2
   go_roundw
   case rel =>
    refine ⟨pre.length+1,by omega,by go_num, ?_, ?_,HO5.out⟩
    ·rw [EQ2.out]; unfold endB; rfl
    ·rw [EQ1.out,List.append_assoc,HPO.out];exact HB5.out
   case measure=>simp [intOf]; omega
  ·have hj':j=n:=by omega
   subst hj';rw [List.take_of_length_le (by omega),List.drop_of_length_le (by omega),List.append_nil] at hbo;rw [List.take_of_length_le (by omega)];go_wp2;go_ret;exact ⟨rfl,hbo,hon⟩

theorem zdX:∀(l:List BI) (k:Int) (j:Nat) (x:BI),l[j]? = some x→(zbc k l)[j]? = some (zdn (endBs k (l.take j)) x)
 | [],_,j,_,h=>by simp at h
 | y::r,k,0,x,h=>by
  simp at h
  subst h
  rfl
 | y::r,k,j+1,x,h=>by
  have:=zdX r (endB k y) j x (by simpa using h)
  simpa [zbc,endBs] using this

theorem zcp (ao:Option Addr) (n cap:Nat) (l:List BI) (k:Int) (w:World) (hr:BRow w ao n cap (zbc k l)) (hs:n+bulk l≤1048576) (hk0:0 < k) (hk1:k≤1000) :
  Calls Tryz.prog 39 #[.slice ao n cap,.int .i64 k] w fun e w'=>e=.returned (.int .i64 (endBs k l))∧Below w.heap.size w w':=by
 have hl:=hr.size;rw [zcs] at hl;have hend:=zcm l k;go_enter Tryz.func39,Tryz.ntmps39;go_wp2
 go_loopw [1,5] (fun m i wr=>∃j:Nat,j≤n∧i=.int .i64 j∧m=.int .i64 (endBs k (l.take j))∧Below w.heap.size w wr) (fun _ i _=>n - (intOf i).toNat)
 case atStart=>exact ⟨0,Nat.zero_le _,rfl,rfl,Below.refl _ _⟩
 case round =>
  obtain ⟨j,hj,rfl,rfl,hb⟩:=hrel;by_cases hlt:j < n
  ·have hx:l[j]? = some l[j]:=List.getElem?_eq_getElem (by omega);generalize l[j]=x at hx;have hw:=zfW (List.mem_of_getElem? hx);unfold BI.wt at hw;have hej:=zcm (l.take j) k;have hbj:=zey l j;have hlj:(l.take j).length≤n:=by rw [List.length_take]; omega
   obtain ⟨y,b,off,hy,rfl,hat,hin⟩:=(hr.below hb).at j hlt;rw [zdX l k j x hx] at hy;cases hy;have EQ2:=hide (show endBs k (l.take (j+1))=endB (endBs k (l.take j)) x by rw [zcA hx,zdR]);generalize endBs k (l.take j)=K0 at *;have CX:Hid (∀W,Below wr.heap.size wr W→(zdn K0 x).At W b (off+j*5)):=fun W h=>hat.below h
   unfold BI.At zdn at CX;unfold BI.At zdn at hat;have h1:IRow wr x.oa x.on x.oc (zaI K0 x.on):=hin.o;have h2:IRow wr x.za x.zn x.zc (zaI (K0+x.on+1+1+1) x.zn):=hin.z;have HB:=hide hb;clear hb hx hin
   simp only at CX hat
   obtain ⟨a0,a1,a2,a3,a4⟩:=hat;(go_wp2_with fail);refine (zeJ x.oa x.on x.oc K0 _ h1 (by omega) (by omega) (by omega)).mono ?_;rintro e w1 ⟨rfl,rfl⟩;(go_wp2_with fail)
   go_region_held3 (fun W=>W.cell? ⟨b,off+j*5+3,none⟩=some (.string (mtx (K0+x.on+1+1)))) (first | exact (CX.out _ u2).2.2.2.1 | go_keep) (first
    | (go_at_call 102; refine (zcM (K0+x.on+1+1) _ (by omega) (by omega)).mono ?_; rintro e w2 ⟨rfl,hms,hb2⟩; have u2:=undrew hb2))
   clear a0 a1 a2 a3 a4 hb2;obtain ⟨a0,a1,a2,a3,a4⟩:=CX.out _ u2;(go_wp2_with fail);refine (zeJ x.za x.zn x.zc (K0+x.on+1+1+1) _ (h2.below u2) (by omega) (by omega) (by omega)).mono ?_;rintro e w3 ⟨rfl,rfl⟩;have HB2:=hide (HB.out.trans (u2.mono HB.out.size));clear a0 a1 a2 a3 a4 u2 h1 h2 CX;go_wp2
   go_roundw
   case rel =>
    refine ⟨j+1,by omega,by go_num, ?_,HB2.out⟩;rw [EQ2.out]; unfold endB; rfl
   case measure=>simp [intOf]; omega
  ·have hj':j=n:=by omega
   subst hj';rw [List.take_of_length_le (by omega)];go_wp2;go_ret;exact ⟨rfl,hb⟩

theorem zfj (x y:BI) (hd:x.d=y.d) (w:World) (hx:x.In w) (hy:y.In w) :
  Calls Tryz.prog 94 #[.agg #[.slice x.oa x.on x.oc,.int .i64 x.K,.int .i64 x.N,.string x.S,.slice x.za x.zn x.zc],.agg #[.slice y.oa y.on y.oc,.int .i64 y.K,.int .i64 y.N,.string y.S,.slice y.za y.zn y.zc]] w fun e w' =>
   e=.returned (.bool true)∧Below w.heap.size w w':=by
 obtain ⟨oa,on,oc,o,K,N,S,za,zn,zc,z⟩:=x;obtain ⟨oa',on',oc',o',K',N',S',za',zn',zc',z'⟩:=y;simp only [BI.d,BD.mk.injEq] at hd;obtain ⟨rfl,rfl,rfl,rfl,rfl⟩:=hd;obtain ⟨h1,h2,-⟩:=hx;obtain ⟨h3,h4,-⟩:=hy
 simp only at h1 h2 h3 h4 ⊢
 go_enter Tryz.func94,Tryz.ntmps94;go_wp2_with fail
 refine (zfY oa on oc oa' on' oc' o _ (h1.below (zz _ _ _)) (h3.below (zz _ _ _))).mono ?_;rintro e w1 ⟨rfl,m,rfl⟩;go_wp2_with fail
 refine (zgq K N S za zn zc za' zn' zc' z _ (h2.below (zaj (zz _ _ _) m)) (h4.below (zaj (zz _ _ _) m))).mono ?_;rintro e w2 ⟨rfl,hb⟩;go_wp2;go_ret;exact ⟨rfl,(zaj (zz w _ _) m).trans (hb.mono (by have:=(zz w (.cells #[.slice oa on oc,.int .i64 K,.int .i64 N,.string S,.slice za zn zc] 37) (.cells #[.slice oa' on' oc',.int .i64 K,.int .i64 N,.string S,.slice za' zn' zc'] 37)).size; exact this))⟩

theorem zi4 {a b:List BI} (h:a.map BI.d=b.map BI.d) {i:Nat} {x y:BI} (hx:a[i]? = some x) (hy:b[i]? = some y):x.d=y.d:=by
 have h1:(a.map BI.d)[i]? = some x.d:=by rw [List.getElem?_map,hx]; rfl
 rw [h,List.getElem?_map,hy] at h1;exact (Option.some.inj h1).symm

theorem zbX (ao:Option Addr) (n c:Nat) (l:List BI) (ao':Option Addr) (n' c':Nat) (l':List BI) (hd:l.map BI.d=l'.map BI.d) (w:World) (hl:BRow w ao n c l) (hl':BRow w ao' n' c' l') :
  Calls Tryz.prog 35 #[.slice ao n c,.slice ao' n' c'] w fun e w'=>e=.returned (.bool true)∧Below w.heap.size w w':=by
 have hs:=hl.size;have hs':=hl'.size;have htop:=Nat.le_trans hl.le hl.top;unfold maxLen at htop;have hnn:n'=n:=by rw [← hs,← hs']; simpa using (congrArg List.length hd).symm
 subst hnn;go_enter Tryz.func35,Tryz.ntmps35;go_wp2
 go_loopw [5] (fun i wr=>∃k:Nat,k≤n'∧i=.int .i64 k∧Below w.heap.size w wr) (fun i _=>n' - (intOf i).toNat)
 case atStart=>exact ⟨0,Nat.zero_le _,rfl,Below.refl _ _⟩
 case round =>
  obtain ⟨k,hk,rfl,hb⟩:=hrel;by_cases hlt:k < n'
  ·obtain ⟨x,b,off,hx,rfl,hat,hin⟩:=(hl.below hb).at k hlt;obtain ⟨y,b',off',hy,rfl,hat',hin'⟩:=(hl'.below hb).at k hlt;have hxy:=zi4 hd hx hy;have CX:Hid (∀W,Below wr.heap.size wr W→x.At W b (off+k*5)∧y.At W b' (off'+k*5)):=fun W h=>⟨hat.below h,hat'.below h⟩
   have HB:=hide hb;clear hx hy hb;unfold BI.At at CX;obtain ⟨a0,a1,a2,a3,a4⟩:=hat;obtain ⟨e0,e1,e2,e3,e4⟩:=hat';(go_wp2_with fail)
   go_region_held3 (fun W=>(W.cell? ⟨b,off+k*5,none⟩=some (.slice x.oa x.on x.oc)∧W.cell? ⟨b,off+k*5+1,none⟩=some (.int .i64 x.K)∧W.cell? ⟨b,off+k*5+2,none⟩=some (.int .i64 x.N)∧W.cell? ⟨b,off+k*5+3,none⟩=some (.string x.S)∧W.cell? ⟨b,off+k*5+4,none⟩=some (.slice x.za x.zn x.zc))∧(W.cell? ⟨b',off'+k*5,none⟩=some (.slice y.oa y.on y.oc)∧W.cell? ⟨b',off'+k*5+1,none⟩=some (.int .i64 y.K)∧W.cell? ⟨b',off'+k*5+2,none⟩=some (.int .i64 y.N)∧W.cell? ⟨b',off'+k*5+3,none⟩=some (.string y.S)∧W.cell? ⟨b',off'+k*5+4,none⟩=some (.slice y.za y.zn y.zc))) (first | exact CX.out _ u1 | go_keep) (first
    | (go_at_call 94; refine (zfj x y hxy _ (hin.below (zaj (Below.refl _ _) _)) (hin'.below (zaj (Below.refl _ _) _))).mono ?_; rintro e w1 ⟨rfl,hb1⟩; have u1:=undrew hb1))
   have b1:=HB.out.trans (u1.mono HB.out.size);clear u1 hb1 a0 a1 a2 a3 a4 e0 e1 e2 e3 e4;go_wp2
   go_roundw
   case rel=>exact ⟨k+1,by omega,by go_num,b1⟩
   case measure=>simp [intOf]; omega
  ·have hk':k=n':=by omega
   subst hk';go_wp2;go_ret;exact ⟨rfl,hb⟩

theorem zfP (e:VR) (w:World) :
  Calls Tryz.prog 231 #[.agg #[.int .i64 e.i,.int .i64 e.m,.int .i64 e.b]] w fun r w'=>r=.returned (.agg #[.int .i64 e.i,.int .i64 e.m,.int .i64 e.b])∧Below w.heap.size w w':=by
 go_enter Tryz.func231,Tryz.ntmps231;go_wp2;exact bodyPost_ret (v:=.agg #[.int .i64 e.i,.int .i64 e.m,.int .i64 e.b]) (by simp [results,Tryz.results231,go_sem, *]) rfl ⟨rfl,zar _ _ _ _⟩

theorem zhB:(Tryz.prog.info? 119).map (fun i=>(i.zero,i.size,i.bytes))=some (some (.agg #[.int .i64 0,.int .i64 0,.int .i64 0]),3,24):=by kernel_rfl

def VR.zero:VR:=⟨0,0,0⟩

theorem at3h {w w':World} {b off n cap:Nat} {l:List VR} (h:GRow vrowF w (some ⟨b,off,none⟩) n cap l) (hb:Below w.heap.size w w') {i:Nat} {x:VR} (hx:l[i]? = some x) :
  w'.cell? ⟨b,off+i*3,none⟩=some (.int .i64 x.i)∧w'.cell? ⟨b,off+i*3+1,none⟩=some (.int .i64 x.m)∧w'.cell? ⟨b,off+i*3+2,none⟩=some (.int .i64 x.b):=by
 have hi:i < n:=by
  have:=(List.getElem?_eq_some_iff.1 hx).1
  have:=h.size
  omega
 obtain ⟨y,b',off',hy,e,c⟩:=zaD (h.below hb) i hi;cases e;rw [hx] at hy;cases hy;exact c

theorem zgf {w:World} {base g n cap:Nat} {pre post:List VR} {x y:VR} (h:w.ownsRow base 119 3 (.slice (some ⟨g,0,none⟩) n cap) n (vrowF.all (pre++x::post))) :
  (((w.setCell ⟨g,pre.length*3,none⟩ (.int .i64 y.i)).setCell ⟨g,pre.length*3+1,none⟩ (.int .i64 y.m)).setCell ⟨g,pre.length*3+2,none⟩ (.int .i64 y.b)).ownsRow base 119 3 (.slice (some ⟨g,0,none⟩) n cap) n (vrowF.all (pre++y::post)):=by
 have R0:=zR (F:=vrowF) (x':=⟨y.i,x.m,x.b⟩) h 0 (.int .i64 y.i) (by decide) rfl;have R1:=zR (F:=vrowF) (x':=⟨y.i,y.m,x.b⟩) R0 1 (.int .i64 y.m) (by decide) rfl;exact zR (F:=vrowF) (x':=y) R1 2 (.int .i64 y.b) (by decide) rfl

theorem zdT {w:World} {g:Nat} (j0 j1 j2:Nat) (u0 u1 u2:Value):w.grownBy (((w.setCell ⟨g,j0,none⟩ u0).setCell ⟨g,j1,none⟩ u1).setCell ⟨g,j2,none⟩ u2) (some g) :=
 zA (zA (zl _ _) (zl _ _)) (zl _ _)

theorem zd6 {w:World} {base g n cap:Nat} {T:TypeId} {l:List VR} (h:w.ownsRow base T 3 (.slice (some ⟨g,0,none⟩) n cap) n (vrowF.all l)) {i:Nat} {x:VR} (hx:l[i]? = some x) :
  (w.cell? ⟨g,i*3,none⟩=some (.int .i64 x.i)∧w.cell? ⟨g,i*3+1,none⟩=some (.int .i64 x.m)∧w.cell? ⟨g,i*3+2,none⟩=some (.int .i64 x.b)) ∧
  (w.frozen? ⟨g,i*3,none⟩=false∧w.frozen? ⟨g,i*3+1,none⟩=false∧w.frozen? ⟨g,i*3+2,none⟩=false):=by
 have c0:=zac (F:=vrowF) h hx (j:=0) (v:=.int .i64 x.i) rfl;have c1:=zac (F:=vrowF) h hx (j:=1) (v:=.int .i64 x.m) rfl;have c2:=zac (F:=vrowF) h hx (j:=2) (v:=.int .i64 x.b) rfl;exact ⟨⟨c0.1,c1.1,c2.1⟩,c0.2,c1.2,c2.2⟩

theorem zfd (ao:Option Addr) (n c:Nat) (l:List VR) (w:World) (hl:GRow vrowF w ao n c l) (hs:n≤1048576) :
  Calls Tryz.prog 173 #[.slice ao n c] w fun r w'=>∃ao' cap,r=.returned (.slice ao' n cap)∧w'.ownsRow w.heap.size 119 3 (.slice ao' n cap) n (vrowF.all l)∧GRow vrowF w' ao' n cap l∧Below w.heap.size w w':=by
 obtain ⟨i0,hi,hz0,hz1,hz2⟩:=za3 zhB;have s1:=hl.size;go_enter Tryz.func173,Tryz.ntmps173;go_wp2_with (at_make; refine wpList_make_full _ rfl _ _ 26 rfl w.heap.size 119 i0 (.agg #[.int .i64 0,.int .i64 0,.int .i64 0]) 3 Tryz.underlying26 hi hz0 hz1 .i64 .i64 _ _ n rfl rfl rfl rfl ?c1 ?c2 ?c3 ?_)
 case c1=>rw [hz2]; omega
 case c2=>unfold maxLen; omega
 case c3=>exact Nat.le_refl _
 intro w1 hown hgrow;have hb1:Below w.heap.size w w1:=(Below.refl _ _).grown hgrow (Nat.le_refl _) (by intro k hk; cases hk);have hown1:w1.ownsRow w.heap.size 119 3 (.slice (some ⟨w.heap.size,0,none⟩) n n) n (vrowF.all (l.take 0++List.replicate (n - 0) VR.zero)):=by
  rw [List.take_zero,List.nil_append,Nat.sub_zero,← zde]; exact hown
 clear hown hgrow hi hz0 hz1 hz2;go_wp2
 go_loopw [4] (fun i wr=>∃k:Nat,k≤n∧i=.int .i64 k∧wr.ownsRow w.heap.size 119 3 (.slice (some ⟨w.heap.size,0,none⟩) n n) n (vrowF.all (l.take k++List.replicate (n - k) VR.zero))∧Below w.heap.size w wr) (fun i _=>n - (intOf i).toNat)
 case atStart=>exact ⟨0,Nat.zero_le _,rfl,hown1,hb1⟩
 case round =>
  obtain ⟨k,hk,rfl,ho,hb⟩:=hrel;clear hown1 hb1;by_cases hlt:k < n
  ·obtain ⟨x,b,off,hx,rfl,a0,a1,a2⟩:=zaD (hl.below hb) k hlt;have hrep:List.replicate (n - k) VR.zero=VR.zero::List.replicate (n - (k+1)) VR.zero:=by rw [← List.replicate_succ]; congr 1; omega
   have hlk:(l.take k).length=k:=by rw [List.length_take]; omega
   rw [hrep] at ho;have htk:l.take (k+1)=l.take k++[x]:=by rw [List.take_add_one,hx]; rfl
   have HTK:=hide htk;have HB:=hide hb;have HO:=hide ho;have HX:=hide hx;clear hb ho htk hx;(go_wp2_with fail);refine (zfP x _).mono ?_;rintro r w2 ⟨rfl,hb2⟩;have ho2:=zm HO.out hb2;have hz:(l.take k++VR.zero::List.replicate (n - (k+1)) VR.zero)[k]? = some VR.zero:=by rw [List.getElem?_append_right (by omega),hlk,Nat.sub_self]; rfl
   obtain ⟨⟨t0,t1,t2⟩,f0,f1,f2⟩:=zd6 ho2 hz;have o3:=zgf (y:=x) ho2;rw [hlk] at o3;have HO3:=hide o3;have hb3:=zd HB.out hb2;have HB3:=hide (hb3.grown (zdT (w:=w2) (g:=w.heap.size) (k*3) (k*3+1) (k*3+2) (.int .i64 x.i) (.int .i64 x.m) (.int .i64 x.b)) hb3.size (by intro j e; cases e; exact Nat.le_refl _));clear ho2 hb2 hb3 o3 hz a0 a1 a2;go_wp2
   go_roundw
   case rel=>exact ⟨k+1,by omega,by go_num,by rw [HTK.out,List.append_assoc]; exact HO3.out,HB3.out⟩
   case measure=>simp [intOf]; omega
  ·have hkn:k=n:=by omega
   subst hkn;rw [Nat.sub_self,List.take_of_length_le (by omega),List.replicate_zero,List.append_nil] at ho;have HO:=hide ho;have HR:=hide (zab ho);have HB:=hide hb;clear ho hb;go_wp2;go_ret;exact ⟨_,_,rfl,HO.out,HR.out,HB.out⟩

theorem zfm (e:VR) (w:World) :
  Calls Tryz.prog 233 #[.agg #[.int .i64 e.i,.int .i64 e.m,.int .i64 e.b],.agg #[.int .i64 e.i,.int .i64 e.m,.int .i64 e.b]] w fun r w'=>r=.returned (.bool true)∧Below w.heap.size w w':=by
 go_enter Tryz.func233,Tryz.ntmps233;go_wp2;go_ret;exact ⟨rfl,zz _ _ _⟩

theorem zfM (ao:Option Addr) (n c:Nat) (left:Int) (w:World) (hl:n≤maxLen) (h0:0≤left) (h1:left≤1048576) :
  Calls Tryz.prog 168 #[.slice ao n c,.int .i64 left] w fun r w'=>r=.returned (.int .i64 (if (n:Int)≤left then left - n else -1))∧w'=w:=by
 unfold maxLen at hl;go_enter Tryz.func168,Tryz.ntmps168;go_wp2
 all_goals go_ret
 all_goals exact ⟨rfl,rfl⟩

theorem zfL (ao:Option Addr) (n c:Nat) (left:Int) (w:World) (hl:n≤maxLen) (h0:0≤left) (h1:left≤1048576) :
  Calls Tryz.prog 169 #[.slice ao n c,.int .i64 left] w fun r w'=>r=.returned (.int .i64 (if (n:Int)≤left then left - n else -1))∧w'=w:=by
 unfold maxLen at hl;go_enter Tryz.func169,Tryz.ntmps169;go_wp2
 all_goals go_ret
 all_goals exact ⟨rfl,rfl⟩

def markR (k:Int):VR:=⟨k,k+1,k+1+1⟩
def zbv (k:Int) (n:Nat):List VR:=(List.range n).map fun (i:Nat)=>markR (k+3*i)

theorem zel (k:Int) (n:Nat):(zbv k n).length=n:=by simp [zbv]
theorem zfx (k:Int) (j:Nat):zbv k (j+1)=zbv k j++[markR (k+3*j)]:=by simp [zbv,List.range_succ]
theorem zi7 (k:Int) (n j:Nat) (h:j < n):(zbv k n)[j]? = some (markR (k+3*j)):=by simp [zbv,List.getElem?_map,List.getElem?_range h]

theorem zeS (base g n cap:Nat) (l:List VR) (k:Int) (w:World) (hown:w.ownsRow base 119 3 (.slice (some ⟨g,0,none⟩) n cap) n (vrowF.all l)) (hn:n≤16777216) (hk0:0≤k) (hk1:k≤1099511627776) :
  Calls Tryz.prog 180 #[.slice (some ⟨g,0,none⟩) n cap,.int .i64 k] w fun r w'=>r=.returned (.int .i64 (k+3*n))∧w'.ownsRow base 119 3 (.slice (some ⟨g,0,none⟩) n cap) n (vrowF.all (zbv k n))∧w.grownBy w' (some g):=by
 have hl:l.length=n:=(zab (F:=vrowF) hown).size;go_enter Tryz.func180,Tryz.ntmps180;go_wp2
 go_loopw [1,5] (fun m i wr=>∃j:Nat,j≤n∧i=.int .i64 j∧m=.int .i64 (k+3*j)∧wr.ownsRow base 119 3 (.slice (some ⟨g,0,none⟩) n cap) n (vrowF.all (zbv k j++l.drop j))∧w.grownBy wr (some g)) (fun _ i _=>n - (intOf i).toNat)
 case atStart=>exact ⟨0,Nat.zero_le _,rfl,by simp,by simpa [zbv] using hown,World.grownBy.refl _ _⟩
 case round =>
  obtain ⟨j,hj,rfl,rfl,how,hg⟩:=hrel;by_cases hlt:j < n
  ·obtain ⟨x,hx⟩:∃x,l[j]? = some x:=⟨l[j]'(by omega),List.getElem?_eq_getElem (by omega)⟩;have hdr:l.drop j=x::l.drop (j+1):=by
    obtain ⟨h,rfl⟩:=List.getElem?_eq_some_iff.1 hx;exact List.drop_eq_getElem_cons h
   rw [hdr] at how;have hlj:=zel k j;have hz:(zbv k j++x::l.drop (j+1))[j]? = some x:=by rw [List.getElem?_append_right (by omega),hlj,Nat.sub_self]; rfl
   obtain ⟨⟨t0,t1,t2⟩,f0,f1,f2⟩:=zd6 how hz;have o3:=zgf (y:=markR (k+3*j)) how;rw [hlj] at o3;have HO3:=hide o3;have HG:=hide (zA hg (zdT (w:=wr) (g:=g) (j*3) (j*3+1) (j*3+2) (.int .i64 (markR (k+3*j)).i) (.int .i64 (markR (k+3*j)).m) (.int .i64 (markR (k+3*j)).b)));have HM:=hide (zfx k j);have hm:0≤k+3*(j:Int)∧k+3*(j:Int)≤2199023255552:=by omega
   clear how hg hown o3 hz hdr;generalize hK:k+3*(j:Int)=K at *;go_wp2
   go_roundw
   case rel=>exact ⟨j+1,by omega,by go_num,by simp; omega,by rw [HM.out,List.append_assoc]; exact HO3.out,HG.out⟩
   case measure=>simp [intOf]; omega
  ·have hj':j=n:=by omega
   subst hj';rw [List.drop_eq_nil_of_le (by omega),List.append_nil] at how;have HO:=hide how;clear how hown;go_wp2;go_ret;exact ⟨rfl,HO.out,hg⟩

theorem zem (k:Int) (c:Nat) (w:World) :
  Calls Tryz.prog 180 #[.slice none 0 c,.int .i64 k] w fun r w'=>r=.returned (.int .i64 k)∧w'=w:=by
 go_enter Tryz.func180,Tryz.ntmps180;go_wp2
 go_loop [1,5] (fun m i=>m=.int .i64 k∧i=.int .i64 0) (fun _ _=>0)
 case atStart=>exact ⟨rfl,rfl⟩
 case round =>
  obtain ⟨rfl,rfl⟩:=hrel;go_wp2;go_ret;exact ⟨rfl,rfl⟩

theorem zdr (base:Nat) (ao:Option Addr) (n cap:Nat) (l:List VR) (k:Int) (w:World) (hown:w.ownsRow base 119 3 (.slice ao n cap) n (vrowF.all l)) (hn:n≤16777216) (hk0:0≤k) (hk1:k≤1099511627776) :
  Calls Tryz.prog 180 #[.slice ao n cap,.int .i64 k] w fun r w'=>r=.returned (.int .i64 (k+3*n))∧w'.ownsRow base 119 3 (.slice ao n cap) n (vrowF.all (zbv k n))∧w.grownBy w' (Value.slice ao n cap).ownBlock:=by
 rcases hown.2 with ⟨e,h0⟩ | ⟨g,cap',cur,e,-⟩
 ·cases e;refine (zem k 0 w).mono ?_;rintro r w' ⟨rfl,rfl⟩;exact ⟨by simp,by simpa [zbv,Flat.all] using World.ownsRow_nil w' base 119 3,World.grownBy.refl _ _⟩
 ·cases e;exact zeS base g n cap l k w hown hn hk0 hk1

theorem zeC (ao:Option Addr) (n c:Nat) (ao':Option Addr) (n' c':Nat) (l:List VR) (w:World) (hl:GRow vrowF w ao n c l) (hl':GRow vrowF w ao' n' c' l) :
  Calls Tryz.prog 179 #[.slice ao n c,.slice ao' n' c'] w fun r w'=>r=.returned (.bool true)∧Below w.heap.size w w':=by
 have hs:=hl.size;have hs':=hl'.size;have htop:=Nat.le_trans hl.le hl.top;unfold maxLen at htop;have hnn:n'=n:=by omega
 subst hnn;go_enter Tryz.func179,Tryz.ntmps179;go_wp2
 go_loopw [5] (fun i wr=>∃k:Nat,k≤n'∧i=.int .i64 k∧Below w.heap.size w wr) (fun i _=>n' - (intOf i).toNat)
 case atStart=>exact ⟨0,Nat.zero_le _,rfl,Below.refl _ _⟩
 case round =>
  obtain ⟨k,hk,rfl,hb⟩:=hrel;by_cases hlt:k < n'
  ·obtain ⟨x,b,off,hx,rfl,a0,a1,a2⟩:=zaD (hl.below hb) k hlt;obtain ⟨y,b',off',hy,rfl,e0,e1,e2⟩:=zaD (hl'.below hb) k hlt;rw [hx] at hy;cases hy;have HS:Hid (∀W,Below wr.heap.size wr W→(zcc W b (off+k*3) (.int .i64 x.i)∧zcc W b (off+k*3+1) (.int .i64 x.m)∧zcc W b (off+k*3+2) (.int .i64 x.b))∧(zcc W b' (off'+k*3) (.int .i64 x.i)∧zcc W b' (off'+k*3+1) (.int .i64 x.m)∧zcc W b' (off'+k*3+2) (.int .i64 x.b))):=hide (fun W h=>⟨at3h (hl.below hb) h hx,at3h (hl'.below hb) h hx⟩);have vv:Below wr.heap.size wr wr.drew:=zv (Below.refl _ _);have i1:(0:Int)≤(k:Int):=by omega
   have i2:(k:Int) < (n':Int):=by omega
   have HB:=hide hb;clear hb a0 a1 a2 e0 e1 e2 hx;(go_wp2_with fail);refine wp_region_held_drew (S:=(fun W=>(zcc W b (off+k*3) (.int .i64 x.i)∧zcc W b (off+k*3+1) (.int .i64 x.m)∧zcc W b (off+k*3+2) (.int .i64 x.b))∧(zcc W b' (off'+k*3) (.int .i64 x.i)∧zcc W b' (off'+k*3+1) (.int .i64 x.m)∧zcc W b' (off'+k*3+2) (.int .i64 x.b)))) (by kernel_rfl) (HS.out _ vv) (fun hHeld => ?_);refine kK 0 ?_;refine kK 1 ?_;refine kK 2 ?_;refine kK 3 ?_;refine kK 4 ?_;refine kK 5 ?_;refine kK 6 ?_;refine kK 7 ?_;refine kR 8 fun K hK => ?_
   go_simp;refine (zfm x _).mono ?_;rintro r wz ⟨rfl,hbz⟩;have vv:=zd vv hbz;(go_wp2_with fail);refine kO hK (HS.out _ vv) fun hHeld => ?_
   clear hK K;refine kK 9 ?_;refine wpAnyH_done (by kernel_rfl) ?_ _;have b1:=zd HB.out vv;clear HS hHeld vv;go_wp2
   go_roundw
   case rel=>exact ⟨k+1,by omega,by go_num,b1⟩
   case measure=>simp [intOf]; omega
  ·have hk':k=n':=by omega
   subst hk';go_wp2;go_ret;exact ⟨rfl,hb⟩

theorem zdk (K N:Int) (S:ByteArray) (a1:Option Addr) (l1 c1:Nat) (z1:List Int) (K' N':Int) (S':ByteArray) (a2:Option Addr) (l2 c2:Nat) (z2:List Int) (w:World) (h1:IRow w a1 l1 c1 z1) (h2:IRow w a2 l2 c2 z2) :
  Calls Tryz.prog 15 #[.agg #[.int .i64 K,.int .i64 N,.string S,.slice a1 l1 c1],.agg #[.int .i64 K',.int .i64 N',.string S',.slice a2 l2 c2]] w fun e w'=>e=.returned (.bool (sameV K N S z1 K' N' S' z2))∧Below w.heap.size w w':=by
 generalize hP:sameV K N S z1 K' N' S' z2=P;have HP:=hide hP;clear hP;cases t1:(K == K')
 ·go_enter Tryz.func15,Tryz.ntmps15;go_wp2;go_ret;exact ⟨zw (by rw [← HP.out]; simp [sameV,t1]),zz _ _ _⟩
 cases t2:(N == N')
 ·go_enter Tryz.func15,Tryz.ntmps15;go_wp2;go_ret;exact ⟨zw (by rw [← HP.out]; simp [sameV,t2]),zz _ _ _⟩
 cases t3:(S.toList == S'.toList)
 ·go_enter Tryz.func15,Tryz.ntmps15;go_wp2;go_ret;exact ⟨zw (by rw [← HP.out]; simp [sameV,t3]),zz _ _ _⟩
 go_enter Tryz.func15,Tryz.ntmps15;go_wp2_with fail
 refine (zeD a1 l1 c1 z1 a2 l2 c2 z2 _ (h1.below (zz _ _ _)) (h2.below (zz _ _ _))).mono ?_;rintro e w1 ⟨rfl,n,rfl⟩;go_wp2;go_ret;exact ⟨zw (by rw [← HP.out]; simp [sameV,t1,t2,t3]),zaj (zz _ _ _) n⟩

theorem zhz (x:PT) (w:World) :
  Calls Tryz.prog 171 #[.agg #[.bool x.up,.int .i64 x.k,.bool x.has,.int .i64 x.v.r,.int .i64 x.v.c,.int .i64 x.v.h,.int .i64 x.v.b,.int .i64 x.v.p]] w fun r w'=>r=.returned (.agg #[.bool x.up,.int .i64 x.k,.bool x.has,.int .i64 x.v.r,.int .i64 x.v.c,.int .i64 x.v.h,.int .i64 x.v.b,.int .i64 x.v.p])∧Below w.heap.size w w':=by
 go_enter Tryz.func171,Tryz.ntmps171;go_wp2_with fail
 refine (zgJ x.v.r x.v.c x.v.h x.v.b x.v.p _).mono ?_;rintro e w2 ⟨rfl,hb2⟩;obtain ⟨-,k1,k2⟩:=za4 hb2;have HB0:=hide (zd (zar w _ _ _) hb2);clear hb2;obtain ⟨d0,d1,d2,d3,d4,d5,d6,d7⟩:=zbQ k2;obtain ⟨e0,e1,e2,e3,e4,e5,e6,e7⟩:=zbQ k1;have fr:∀j,w2.frozen? ⟨w.heap.size+1+1,j,none⟩=false:=fun j=>by simp [World.frozen?,k2]
 have gr:∀j,w2.frozen? ⟨w.heap.size+1,j,none⟩=false:=fun j=>by simp [World.frozen?,k1]
 have f3:=fr 3;have f4:=fr 4;have f5:=fr 5;have f6:=fr 6;have f7:=fr 7;have g0:=gr 0;have g1:=gr 1;have g2:=gr 2;have g3:=gr 3;have g4:=gr 4;have g5:=gr 5;have g6:=gr 6;have g7:=gr 7;have ne1:¬w.heap.size+1=w.heap.size+1+1:=by omega
 have ne2:¬w.heap.size+1+1=w.heap.size+1:=by omega
 have HB:=hide (zi (zi (zi (zi (zi (zi (zi (zi (zi (zi (zi (zi (zi HB0.out (g:=w.heap.size+1+1) (by omega) 3 (.int .i64 x.v.r)) (g:=w.heap.size+1+1) (by omega) 4 (.int .i64 x.v.c)) (g:=w.heap.size+1+1) (by omega) 5 (.int .i64 x.v.h)) (g:=w.heap.size+1+1) (by omega) 6 (.int .i64 x.v.b)) (g:=w.heap.size+1+1) (by omega) 7 (.int .i64 x.v.p)) (g:=w.heap.size+1) (by omega) 0 (.bool x.up)) (g:=w.heap.size+1) (by omega) 1 (.int .i64 x.k)) (g:=w.heap.size+1) (by omega) 2 (.bool x.has)) (g:=w.heap.size+1) (by omega) 3 (.int .i64 x.v.r)) (g:=w.heap.size+1) (by omega) 4 (.int .i64 x.v.c)) (g:=w.heap.size+1) (by omega) 5 (.int .i64 x.v.h)) (g:=w.heap.size+1) (by omega) 6 (.int .i64 x.v.b)) (g:=w.heap.size+1) (by omega) 7 (.int .i64 x.v.p));clear fr gr k1 k2;go_wp2;exact bodyPost_ret (v:=.agg #[.bool x.up,.int .i64 x.k,.bool x.has,.int .i64 x.v.r,.int .i64 x.v.c,.int .i64 x.v.h,.int .i64 x.v.b,.int .i64 x.v.p]) (by simp [results,Tryz.results171,go_sem, *]) rfl ⟨rfl,HB.out⟩

theorem ziK:(Tryz.prog.info? 113).map (fun i=>(i.zero,i.size,i.bytes))=some (some (.agg #[.bool false,.int .i64 0,.bool false,.int .i64 0,.int .i64 0,.int .i64 0,.int .i64 0,.int .i64 0]),8,64):=by kernel_rfl

def PT.zero:PT:=⟨false,0,false,⟨0,0,0,0,0⟩⟩

theorem at8h {w w':World} {b off n cap:Nat} {l:List PT} (h:GRow ptF w (some ⟨b,off,none⟩) n cap l) (hb:Below w.heap.size w w') {i:Nat} {x:PT} (hx:l[i]? = some x) :
  w'.cell? ⟨b,off+i*8,none⟩=some (.bool x.up)∧w'.cell? ⟨b,off+i*8+1,none⟩=some (.int .i64 x.k)∧w'.cell? ⟨b,off+i*8+2,none⟩=some (.bool x.has)∧w'.cell? ⟨b,off+i*8+3,none⟩=some (.int .i64 x.v.r)∧w'.cell? ⟨b,off+i*8+4,none⟩=some (.int .i64 x.v.c)∧w'.cell? ⟨b,off+i*8+5,none⟩=some (.int .i64 x.v.h)∧w'.cell? ⟨b,off+i*8+6,none⟩=some (.int .i64 x.v.b)∧w'.cell? ⟨b,off+i*8+7,none⟩=some (.int .i64 x.v.p):=by
 have hi:i < n:=by
  have:=(List.getElem?_eq_some_iff.1 hx).1
  have:=h.size
  omega
 obtain ⟨y,b',off',hy,e,c⟩:=pt_at (h.below hb) i hi;cases e;rw [hx] at hy;cases hy;exact c

theorem ziz {w:World} {base g n cap:Nat} {pre post:List PT} {x y:PT} (h:w.ownsRow base 113 8 (.slice (some ⟨g,0,none⟩) n cap) n (ptF.all (pre++x::post))) :
  ((((((((w.setCell ⟨g,pre.length*8,none⟩ (.bool y.up)).setCell ⟨g,pre.length*8+1,none⟩ (.int .i64 y.k)).setCell ⟨g,pre.length*8+2,none⟩ (.bool y.has)).setCell ⟨g,pre.length*8+3,none⟩ (.int .i64 y.v.r)).setCell ⟨g,pre.length*8+4,none⟩ (.int .i64 y.v.c)).setCell ⟨g,pre.length*8+5,none⟩ (.int .i64 y.v.h)).setCell ⟨g,pre.length*8+6,none⟩ (.int .i64 y.v.b)).setCell ⟨g,pre.length*8+7,none⟩ (.int .i64 y.v.p)).ownsRow base 113 8 (.slice (some ⟨g,0,none⟩) n cap) n (ptF.all (pre++y::post)):=by
 have R0:=zR (F:=ptF) (x':=⟨y.up,x.k,x.has,⟨x.v.r,x.v.c,x.v.h,x.v.b,x.v.p⟩⟩) h 0 (.bool y.up) (by decide) rfl;have R1:=zR (F:=ptF) (x':=⟨y.up,y.k,x.has,⟨x.v.r,x.v.c,x.v.h,x.v.b,x.v.p⟩⟩) R0 1 (.int .i64 y.k) (by decide) rfl;have R2:=zR (F:=ptF) (x':=⟨y.up,y.k,y.has,⟨x.v.r,x.v.c,x.v.h,x.v.b,x.v.p⟩⟩) R1 2 (.bool y.has) (by decide) rfl;have R3:=zR (F:=ptF) (x':=⟨y.up,y.k,y.has,⟨y.v.r,x.v.c,x.v.h,x.v.b,x.v.p⟩⟩) R2 3 (.int .i64 y.v.r) (by decide) rfl;have R4:=zR (F:=ptF) (x':=⟨y.up,y.k,y.has,⟨y.v.r,y.v.c,x.v.h,x.v.b,x.v.p⟩⟩) R3 4 (.int .i64 y.v.c) (by decide) rfl;have R5:=zR (F:=ptF) (x':=⟨y.up,y.k,y.has,⟨y.v.r,y.v.c,y.v.h,x.v.b,x.v.p⟩⟩) R4 5 (.int .i64 y.v.h) (by decide) rfl;have R6:=zR (F:=ptF) (x':=⟨y.up,y.k,y.has,⟨y.v.r,y.v.c,y.v.h,y.v.b,x.v.p⟩⟩) R5 6 (.int .i64 y.v.b) (by decide) rfl;exact zR (F:=ptF) (x':=y) R6 7 (.int .i64 y.v.p) (by decide) rfl

theorem zdV {w:World} {g:Nat} (j0 j1 j2 j3 j4 j5 j6 j7:Nat) (u0 u1 u2 u3 u4 u5 u6 u7:Value):w.grownBy ((((((((w.setCell ⟨g,j0,none⟩ u0).setCell ⟨g,j1,none⟩ u1).setCell ⟨g,j2,none⟩ u2).setCell ⟨g,j3,none⟩ u3).setCell ⟨g,j4,none⟩ u4).setCell ⟨g,j5,none⟩ u5).setCell ⟨g,j6,none⟩ u6).setCell ⟨g,j7,none⟩ u7) (some g) :=
 zA (zA (zA (zA (zA (zA (zA (zl _ _) (zl _ _)) (zl _ _)) (zl _ _)) (zl _ _)) (zl _ _)) (zl _ _)) (zl _ _)

theorem zga {w:World} {base g n cap:Nat} {T:TypeId} {l:List PT} (h:w.ownsRow base T 8 (.slice (some ⟨g,0,none⟩) n cap) n (ptF.all l)) {i:Nat} {x:PT} (hx:l[i]? = some x) :
  (w.cell? ⟨g,i*8,none⟩=some (.bool x.up)∧w.cell? ⟨g,i*8+1,none⟩=some (.int .i64 x.k)∧w.cell? ⟨g,i*8+2,none⟩=some (.bool x.has)∧w.cell? ⟨g,i*8+3,none⟩=some (.int .i64 x.v.r)∧w.cell? ⟨g,i*8+4,none⟩=some (.int .i64 x.v.c)∧w.cell? ⟨g,i*8+5,none⟩=some (.int .i64 x.v.h)∧w.cell? ⟨g,i*8+6,none⟩=some (.int .i64 x.v.b)∧w.cell? ⟨g,i*8+7,none⟩=some (.int .i64 x.v.p)) ∧
  (w.frozen? ⟨g,i*8,none⟩=false∧w.frozen? ⟨g,i*8+1,none⟩=false∧w.frozen? ⟨g,i*8+2,none⟩=false∧w.frozen? ⟨g,i*8+3,none⟩=false∧w.frozen? ⟨g,i*8+4,none⟩=false∧w.frozen? ⟨g,i*8+5,none⟩=false∧w.frozen? ⟨g,i*8+6,none⟩=false∧w.frozen? ⟨g,i*8+7,none⟩=false):=by
 have c0:=zac (F:=ptF) h hx (j:=0) (v:=.bool x.up) rfl;have c1:=zac (F:=ptF) h hx (j:=1) (v:=.int .i64 x.k) rfl;have c2:=zac (F:=ptF) h hx (j:=2) (v:=.bool x.has) rfl;have c3:=zac (F:=ptF) h hx (j:=3) (v:=.int .i64 x.v.r) rfl;have c4:=zac (F:=ptF) h hx (j:=4) (v:=.int .i64 x.v.c) rfl;have c5:=zac (F:=ptF) h hx (j:=5) (v:=.int .i64 x.v.h) rfl;have c6:=zac (F:=ptF) h hx (j:=6) (v:=.int .i64 x.v.b) rfl;have c7:=zac (F:=ptF) h hx (j:=7) (v:=.int .i64 x.v.p) rfl;exact ⟨⟨c0.1,c1.1,c2.1,c3.1,c4.1,c5.1,c6.1,c7.1⟩,c0.2,c1.2,c2.2,c3.2,c4.2,c5.2,c6.2,c7.2⟩

theorem zgI (ao:Option Addr) (n c:Nat) (l:List PT) (w:World) (hl:GRow ptF w ao n c l) (hs:n≤1048576) :
  Calls Tryz.prog 91 #[.slice ao n c] w fun r w'=>∃ao' cap,r=.returned (.slice ao' n cap)∧w'.ownsRow w.heap.size 113 8 (.slice ao' n cap) n (ptF.all l)∧GRow ptF w' ao' n cap l∧Below w.heap.size w w':=by
 obtain ⟨i0,hi,hz0,hz1,hz2⟩:=za3 ziK;have s1:=hl.size;go_enter Tryz.func91,Tryz.ntmps91;go_wp2_with (at_make; refine wpList_make_full _ rfl _ _ 24 rfl w.heap.size 113 i0 (.agg #[.bool false,.int .i64 0,.bool false,.int .i64 0,.int .i64 0,.int .i64 0,.int .i64 0,.int .i64 0]) 8 Tryz.underlying24 hi hz0 hz1 .i64 .i64 _ _ n rfl rfl rfl rfl ?c1 ?c2 ?c3 ?_)
 case c1=>rw [hz2]; omega
 case c2=>unfold maxLen; omega
 case c3=>exact Nat.le_refl _
 intro w1 hown hgrow;have hb1:Below w.heap.size w w1:=(Below.refl _ _).grown hgrow (Nat.le_refl _) (by intro k hk; cases hk);have hown1:w1.ownsRow w.heap.size 113 8 (.slice (some ⟨w.heap.size,0,none⟩) n n) n (ptF.all (l.take 0++List.replicate (n - 0) PT.zero)):=by
  rw [List.take_zero,List.nil_append,Nat.sub_zero,← zde]; exact hown
 clear hown hgrow hi hz0 hz1 hz2;go_wp2
 go_loopw [4] (fun i wr=>∃k:Nat,k≤n∧i=.int .i64 k∧wr.ownsRow w.heap.size 113 8 (.slice (some ⟨w.heap.size,0,none⟩) n n) n (ptF.all (l.take k++List.replicate (n - k) PT.zero))∧Below w.heap.size w wr) (fun i _=>n - (intOf i).toNat)
 case atStart=>exact ⟨0,Nat.zero_le _,rfl,hown1,hb1⟩
 case round =>
  obtain ⟨k,hk,rfl,ho,hb⟩:=hrel;clear hown1 hb1;by_cases hlt:k < n
  ·obtain ⟨x,b,off,hx,rfl,a0,a1,a2,a3,a4,a5,a6,a7⟩:=pt_at (hl.below hb) k hlt;have hrep:List.replicate (n - k) PT.zero=PT.zero::List.replicate (n - (k+1)) PT.zero:=by rw [← List.replicate_succ]; congr 1; omega
   have hlk:(l.take k).length=k:=by rw [List.length_take]; omega
   rw [hrep] at ho;have htk:l.take (k+1)=l.take k++[x]:=by rw [List.take_add_one,hx]; rfl
   have HTK:=hide htk;have HB:=hide hb;have HO:=hide ho;have HX:=hide hx;clear hb ho htk hx;(go_wp2_with fail);refine (zhz x _).mono ?_;rintro r w2 ⟨rfl,hb2⟩;have ho2:=zm HO.out hb2;have hz:(l.take k++PT.zero::List.replicate (n - (k+1)) PT.zero)[k]? = some PT.zero:=by rw [List.getElem?_append_right (by omega),hlk,Nat.sub_self]; rfl
   obtain ⟨⟨t0,t1,t2,t3,t4,t5,t6,t7⟩,f0,f1,f2,f3,f4,f5,f6,f7⟩:=zga ho2 hz;have o3:=ziz (y:=x) ho2;rw [hlk] at o3;have HO3:=hide o3;have hb3:=zd HB.out hb2;have HB3:=hide (hb3.grown (zdV (w:=w2) (g:=w.heap.size) (k*8) (k*8+1) (k*8+2) (k*8+3) (k*8+4) (k*8+5) (k*8+6) (k*8+7) (.bool x.up) (.int .i64 x.k) (.bool x.has) (.int .i64 x.v.r) (.int .i64 x.v.c) (.int .i64 x.v.h) (.int .i64 x.v.b) (.int .i64 x.v.p)) hb3.size (by intro j e; cases e; exact Nat.le_refl _));clear ho2 hb2 hb3 o3 hz a0 a1 a2 a3 a4 a5 a6 a7;go_wp2
   go_roundw
   case rel=>exact ⟨k+1,by omega,by go_num,by rw [HTK.out,List.append_assoc]; exact HO3.out,HB3.out⟩
   case measure=>simp [intOf]; omega
  ·have hkn:k=n:=by omega
   subst hkn;rw [Nat.sub_self,List.take_of_length_le (by omega),List.replicate_zero,List.append_nil] at ho;have HO:=hide ho;have HR:=hide (zab ho);have HB:=hide hb;clear ho hb;go_wp2;go_ret;exact ⟨_,_,rfl,HO.out,HR.out,HB.out⟩

theorem zgX (x:PT) (w:World) :
  Calls Tryz.prog 177 #[.agg #[.bool x.up,.int .i64 x.k,.bool x.has,.int .i64 x.v.r,.int .i64 x.v.c,.int .i64 x.v.h,.int .i64 x.v.b,.int .i64 x.v.p],.agg #[.bool x.up,.int .i64 x.k,.bool x.has,.int .i64 x.v.r,.int .i64 x.v.c,.int .i64 x.v.h,.int .i64 x.v.b,.int .i64 x.v.p]] w fun r w'=>r=.returned (.bool true)∧Below w.heap.size w w':=by
 go_enter Tryz.func177,Tryz.ntmps177;go_wp2_with fail
 refine (zgr x.v.r x.v.c x.v.h x.v.b x.v.p _).mono ?_;rintro e w2 ⟨rfl,hb2⟩;have HB:=hide (zd (zz _ _ _) hb2);clear hb2;go_wp2;go_ret;exact ⟨rfl,HB.out⟩

theorem zhv (ao:Option Addr) (n c:Nat) (left:Int) (w:World) (hl:n≤maxLen) (h0:0≤left) (h1:left≤1048576) :
  Calls Tryz.prog 84 #[.slice ao n c,.int .i64 left] w fun r w'=>r=.returned (.int .i64 (if (n:Int)≤left then left - n else -1))∧w'=w:=by
 unfold maxLen at hl;go_enter Tryz.func84,Tryz.ntmps84;go_wp2
 all_goals go_ret
 all_goals exact ⟨rfl,rfl⟩

theorem zgp (ao:Option Addr) (n c:Nat) (ao':Option Addr) (n' c':Nat) (l:List PT) (w:World) (hl:GRow ptF w ao n c l) (hl':GRow ptF w ao' n' c' l) :
  Calls Tryz.prog 95 #[.slice ao n c,.slice ao' n' c'] w fun r w'=>r=.returned (.bool true)∧Below w.heap.size w w':=by
 have hs:=hl.size;have hs':=hl'.size;have htop:=Nat.le_trans hl.le hl.top;unfold maxLen at htop;have hnn:n'=n:=by omega
 subst hnn;go_enter Tryz.func95,Tryz.ntmps95;go_wp2
 go_loopw [5] (fun i wr=>∃k:Nat,k≤n'∧i=.int .i64 k∧Below w.heap.size w wr) (fun i _=>n' - (intOf i).toNat)
 case atStart=>exact ⟨0,Nat.zero_le _,rfl,Below.refl _ _⟩
 case round =>
  obtain ⟨k,hk,rfl,hb⟩:=hrel;by_cases hlt:k < n'
  ·obtain ⟨x,b,off,hx,rfl,a0,a1,a2,a3,a4,a5,a6,a7⟩:=pt_at (hl.below hb) k hlt;obtain ⟨y,b',off',hy,rfl,e0,e1,e2,e3,e4,e5,e6,e7⟩:=pt_at (hl'.below hb) k hlt;rw [hx] at hy;cases hy;have CX:Hid (∀W,Below wr.heap.size wr W→_∧_):=fun W h=>⟨at8h (hl.below hb) h hx,at8h (hl'.below hb) h hx⟩
   have HB:=hide hb;clear hb;(go_wp2_with fail)
   go_region_held3 (fun W=>(W.cell? ⟨b,off+k*8,none⟩=some (.bool x.up)∧W.cell? ⟨b,off+k*8+1,none⟩=some (.int .i64 x.k)∧W.cell? ⟨b,off+k*8+2,none⟩=some (.bool x.has)∧W.cell? ⟨b,off+k*8+3,none⟩=some (.int .i64 x.v.r)∧W.cell? ⟨b,off+k*8+4,none⟩=some (.int .i64 x.v.c)∧W.cell? ⟨b,off+k*8+5,none⟩=some (.int .i64 x.v.h)∧W.cell? ⟨b,off+k*8+6,none⟩=some (.int .i64 x.v.b)∧W.cell? ⟨b,off+k*8+7,none⟩=some (.int .i64 x.v.p))∧(W.cell? ⟨b',off'+k*8,none⟩=some (.bool x.up)∧W.cell? ⟨b',off'+k*8+1,none⟩=some (.int .i64 x.k)∧W.cell? ⟨b',off'+k*8+2,none⟩=some (.bool x.has)∧W.cell? ⟨b',off'+k*8+3,none⟩=some (.int .i64 x.v.r)∧W.cell? ⟨b',off'+k*8+4,none⟩=some (.int .i64 x.v.c)∧W.cell? ⟨b',off'+k*8+5,none⟩=some (.int .i64 x.v.h)∧W.cell? ⟨b',off'+k*8+6,none⟩=some (.int .i64 x.v.b)∧W.cell? ⟨b',off'+k*8+7,none⟩=some (.int .i64 x.v.p))) (first | exact CX.out _ u1 | go_keep) (first
    | (go_at_call 177; refine (zgX x _).mono ?_; rintro r w1 ⟨rfl,hb1⟩; have u1:Below wr.heap.size wr w1:=undrew hb1))
   have b1:=zd HB.out u1;clear u1 hb1 a0 a1 a2 a3 a4 a5 a6 a7 e0 e1 e2 e3 e4 e5 e6 e7;go_wp2
   go_roundw
   case rel=>exact ⟨k+1,by omega,by go_num,b1⟩
   case measure=>simp [intOf]; omega
  ·have hk':k=n':=by omega
   subst hk';go_wp2;go_ret;exact ⟨rfl,hb⟩

theorem ziR (a0:Option Addr) (l0 c0:Nat) (w:World) (h:¬1048576 < l0):Calls Tryz.prog 9 #[.slice a0 l0 c0] w fun e w'=>e=.returned (.bool false)∧w'=w:=by
 have i1:¬(1048576:Int) < l0:=by omega
 go_enter Tryz.func9,Tryz.ntmps9;go_wp2;go_ret;exact ⟨rfl,rfl⟩

theorem Row.take {w:World} {ao:Option Addr} {n c:Nat} {zs:List Int} (h:Row w ao n c zs) (k:Nat) (hk:k≤n):Row w ao k c (zs.take k) where
 size:=by have:=h.size; simp; omega
 le:=by have:=h.le; omega
 top:=h.top
 nil:=h.nil
 byte:=fun z hz=>h.byte z (List.mem_of_mem_take hz)
 cell:=by
  rcases h.cell with h0 | ⟨b,off,ha,hc⟩
  ·exact .inl (by omega)
  ·exact .inr ⟨b,off,ha,fun i hi=>by rw [hc i (by omega)]; simp [List.getD_eq_getElem?_getD,hi]⟩

end Go.Proofs.YtcpdkcdfnpcemaaGreat
