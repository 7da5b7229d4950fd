/-
  Packed: NetMarkL TextRow MarkText.
-/
import Derived.Test.YtgmkhoakindpkaaPGK01
import Derived.Test.YtgmkhoakindpkaaPGK02
import Derived.Laws.IdiomStrings
namespace Go.Proofs.Ytgmkhoakindpkaa
set_option maxRecDepth 100000
set_option maxHeartbeats 16000000
open Go.RowKit

def zcV (k:Int):LK:=⟨k,k+1,k+1+1,k+1+1+1⟩
def zaz (k:Int) (n:Nat):List LK:=(List.range n).map fun (i:Nat)=>zcV (k+4*i)

theorem zcq (k:Int) (n:Nat):(zaz k n).length=n:=by simp [zaz]
theorem zdo (k:Int) (j:Nat):zaz k (j+1)=zaz k j++[zcV (k+4*j)]:=by simp [zaz,List.range_succ]
theorem zfC (k:Int) (n j:Nat) (h:j < n):(zaz k n)[j]?=some (zcV (k+4*j)):=by simp [zaz,List.getElem?_map,List.getElem?_range h]

theorem zcU (base g n cap:Nat) (l:List LK) (k:Int) (w:World) (hown:w.ownsRow base 57 4 (.slice (some ⟨g,0,none⟩) n cap) n (linkF.all l)) (hn:n≤16777216) (hk0:0≤k) (hk1:k≤1099511627776) :
  Calls Try.prog 37 #[.slice (some ⟨g,0,none⟩) n cap,.int .i64 k] w fun r w'=>r=.returned (.int .i64 (k+4*n))∧w'.ownsRow base 57 4 (.slice (some ⟨g,0,none⟩) n cap) n (linkF.all (zaz k n))∧w.grownBy w' (some g):=by
 have hl:l.length=n:=(zG (F:=linkF) hown).size;go_enter Try.func37,Try.ntmps37;go_wp2
 go_loopw [1,5] (fun m i wr=>∃j:Nat,j≤n∧i=.int .i64 j∧m=.int .i64 (k+4*j)∧wr.ownsRow base 57 4 (.slice (some ⟨g,0,none⟩) n cap) n (linkF.all (zaz k j++l.drop j))∧w.grownBy wr (some g)) (fun _ i _=>n - (intOf i).toNat)
 case atStart=>exact ⟨0,Nat.zero_le _,rfl,by simp,by simpa [zaz] using hown,World.grownBy.refl _ _⟩
 case round =>
  obtain ⟨j,hj,rfl,rfl,how,hg⟩:=hrel;by_cases hlt:j < n
  ·obtain ⟨x,hx⟩:∃x,l[j]?=some x:=⟨l[j]'(by omega),List.getElem?_eq_getElem (by omega)⟩;have hdr:l.drop j=x::l.drop (j+1):=by
    obtain ⟨h,rfl⟩:=List.getElem?_eq_some_iff.1 hx;exact List.drop_eq_getElem_cons h
   rw [hdr] at how;have hlj:=zcq k j;have hz:(zaz k j++x::l.drop (j+1))[j]?=some x:=by rw [List.getElem?_append_right (by omega),hlj,Nat.sub_self]; rfl
   obtain ⟨⟨t0,t1,t2,t3⟩,f0,f1,f2,f3⟩:=zb1 how hz;have o3:=zdT (y:=zcV (k+4*j)) how;rw [hlj] at o3;have HO3:=hide o3;have HG:=hide (zi hg (zcQ (w:=wr) (g:=g) (j:=j*4) (y:=zcV (k+4*j))));have HM:=hide (zdo k j);have hm:0≤k+4*(j:Int)∧k+4*(j:Int)≤2199023255552:=by omega
   clear how hg hown o3 hz hdr;generalize hK:k+4*(j:Int)=K at *;go_wp2
   go_roundw
   case rel=>exact ⟨j+1,by omega,by go_num,by simp; omega,by rw [HM.out,List.append_assoc]; exact HO3.out,HG.out⟩
   case measure=>simp [intOf]; omega
  ·have hj':j=n:=by omega
   subst hj';rw [List.drop_eq_nil_of_le (by omega),List.append_nil] at how;have HO:=hide how;clear how hown;go_wp2;go_ret;exact ⟨rfl,HO.out,hg⟩

theorem zcp (k:Int) (c:Nat) (w:World) :
  Calls Try.prog 37 #[.slice none 0 c,.int .i64 k] w fun r w'=>r=.returned (.int .i64 k)∧w'=w:=by
 go_enter Try.func37,Try.ntmps37;go_wp2
 go_loop [1,5] (fun m i=>m=.int .i64 k∧i=.int .i64 0) (fun _ _=>0)
 case atStart=>exact ⟨rfl,rfl⟩
 case round =>
  obtain ⟨rfl,rfl⟩:=hrel;go_wp2;go_ret;exact ⟨rfl,rfl⟩

theorem zbD (base:Nat) (ao:Option Addr) (n cap:Nat) (l:List LK) (k:Int) (w:World) (hown:w.ownsRow base 57 4 (.slice ao n cap) n (linkF.all l)) (hn:n≤16777216) (hk0:0≤k) (hk1:k≤1099511627776) :
  Calls Try.prog 37 #[.slice ao n cap,.int .i64 k] w fun r w'=>r=.returned (.int .i64 (k+4*n))∧w'.ownsRow base 57 4 (.slice ao n cap) n (linkF.all (zaz k n))∧w.grownBy w' (Value.slice ao n cap).ownBlock:=by
 rcases hown.2 with ⟨e,h0⟩ | ⟨g,cap',cur,e,-⟩
 ·cases e;refine (zcp k 0 w).mono ?_;rintro r w' ⟨rfl,rfl⟩;exact ⟨by simp,by simpa [zaz,Flat.all] using World.ownsRow_nil w' base 57 4,World.grownBy.refl _ _⟩
 ·cases e;exact zcU base g n cap l k w hown hn hk0 hk1

theorem zcW (k:Int) (c:Nat) (w:World) :
  Calls Try.prog 38 #[.slice none 0 c,.int .i64 k] w fun r w'=>r=.returned (.int .i64 k)∧w'=w:=by
 go_enter Try.func38,Try.ntmps38;go_wp2
 go_loop [1,5] (fun m i=>m=.int .i64 k∧i=.int .i64 0) (fun _ _=>0)
 case atStart=>exact ⟨rfl,rfl⟩
 case round =>
  obtain ⟨rfl,rfl⟩:=hrel;go_wp2;go_ret;exact ⟨rfl,rfl⟩

def byB (zs:List Int):ByteArray:=⟨(zs.map fun z=>UInt8.ofNat z.toNat).toArray⟩

theorem zdO (zs:List Int):(byB zs).size=zs.length:=by
 show (zs.map fun z=>UInt8.ofNat z.toNat).toArray.size=_
 rw [List.size_toArray,List.length_map]

theorem zeo {z:Int} (h:0≤z∧z≤255):((UInt8.ofNat z.toNat).toNat:Int)=z:=by
 rw [UInt8.toNat_ofNat'];omega

theorem ze1 (dst:TypeId) (w:World) (ao:Option Addr) (l c:Nat) (zs:List Int) (h:Row w ao l c zs) (hd:Try.prog.underlying dst=some .string):(convert 145 dst (.slice ao l c)).run Try.prog w=.ok (.string (byB zs)) w:=by
 have hl:(zs.map fun z=>UInt8.ofNat z.toNat).length=l:=by rw [List.length_map]; exact h.size
 rcases ao with _ | a
 ·obtain ⟨rfl,rfl⟩:=h.none_zero rfl;have hz:zs=[]:=List.eq_nil_of_length_eq_zero h.size;subst hz;rw [run_convert_bytes_string w 145 dst 5 none 0 0 Try.underlying145 Try.underlying5 hd]
  rfl
 ·have:=run_convert_bytes_back (P:=Try.prog) w 145 dst 5 a c (zs.map fun z=>UInt8.ofNat z.toNat) Try.underlying145 Try.underlying5 hd (by
   intro j hj;have hj':j < zs.length:=by simpa using hj
   rw [h.news a rfl j _ (zfk zs j hj')];have hb:=zcL h.byte j;have e:(zs.map fun z=>UInt8.ofNat z.toNat)[j]=UInt8.ofNat (zs.getD j 0).toNat:=by simp [List.getD_eq_getElem?_getD,hj']
   rw [e,zeo hb])
  rw [hl] at this;exact this

def mtF:Nat→Nat→ByteArray→ByteArray
 | 0,_,out=>out
 | f+1,k,out=>if k=0 then out else mtF f (k / 10) (byB [((48+k % 10:Nat):Int)]++out)
def mtx (k:Int):ByteArray:=⟨#[109]⟩++mtF 20 k.toNat ⟨#[]⟩

theorem zfc (f:Nat) (out:ByteArray):mtF f 0 out=out:=by cases f <;> simp [mtF]

structure MT (k:Int) (m:Nat) (out:ByteArray):Prop where
 f:∃f,mtF f m out=mtF 20 k.toNat ⟨#[]⟩∧m < 10 ^ f∧out.size+f≤20

theorem MT.next {k:Int} {m:Nat} {out:ByteArray} (h:MT k m out) (hm:0 < m):MT k (m / 10) (byB [((48+m % 10:Nat):Int)]++out):=by
 obtain ⟨f,h1,h2,h3⟩:=h.f;cases f with
 | zero=>simp at h2; omega
 | succ f =>
  refine ⟨f, ?_, ?_, ?_⟩
  ·rw [← h1]
   conv=>rhs; unfold mtF
   rw [if_neg (by omega)]
  ·rw [Nat.pow_succ] at h2; omega
  ·rw [ByteArray.size_append,zdO]; simp; omega
theorem MT.done {k:Int} {out:ByteArray} (h:MT k 0 out):⟨#[109]⟩++out=mtx k:=by
 obtain ⟨f,h1,-,-⟩:=h.f;rw [zfc] at h1;unfold mtx;rw [h1]
theorem MT.small {k:Int} {m:Nat} {out:ByteArray} (h:MT k m out):out.size≤20:=by
 obtain ⟨f,-,-,h3⟩:=h.f; omega

theorem zcY (k:Int) (w:World) (h0:0 < k) (h1:k≤1099511627776) :
  Calls Try.prog 64 #[.int .i64 k] w fun e w'=>e=.returned (.string (mtx k))∧(mtx k).size≤21∧Below w.heap.size w w':=by
 have hstart:MT k k.toNat ⟨#[]⟩:=⟨20,rfl,by omega,by simp [ByteArray.size]⟩;have hk0:¬k≤0:=by omega
 go_enter Try.func64,Try.ntmps64;go_wp2
 go_loopw [0,3] (fun x s wr=>∃(m:Nat) (out:ByteArray),x=.int .i64 m∧s=.string out∧(m:Int)≤k∧MT k m out∧Below w.heap.size w wr) (fun x _ _=>(intOf x).toNat)
 case atStart=>exact ⟨k.toNat,⟨#[]⟩,by rw [Int.toNat_of_nonneg (by omega)],rfl,by omega,hstart,Below.refl _ _⟩
 case round =>
  obtain ⟨m,out,rfl,rfl,hmk,hmt,hb⟩:=hrel;have hsm:=hmt.small;by_cases hm:0 < m
  ·have hnx:=hmt.next hm;have hw0:(m:Int).tdiv 10=((m / 10:Nat):Int):=by rw [Int.tdiv_eq_ediv_of_nonneg (by omega)]; omega
   have hw1:(m:Int).tmod 10=((m % 10:Nat):Int):=by rw [Int.tmod_eq_emod_of_nonneg (by omega)]; omega
   have hd:m % 10 < 10:=Nat.mod_lt _ (by omega);have hcv:=ze1 9 (wr.alloc (.cells #[.int .u8 ((48+m % 10:Nat):Int)] 5)) (some ⟨wr.heap.size,0,none⟩) 1 1 [((48+m % 10:Nat):Int)] (zfw wr _ (by omega)) Try.underlying9;have hbs:(byB [((48+m % 10:Nat):Int)]).size=1:=zdO _;have HB:=hide (hb.trans ((zv wr (.cells #[.int .u8 ((48+m % 10:Nat):Int)] 5)).mono hb.size));have HN:=hide hnx;clear hb hnx hstart hmt;generalize hD:((48+m % 10:Nat):Int)=D at *;have hD':48+((m % 10:Nat):Int)=D:=by rw [← hD]; omega
   generalize ((m % 10:Nat):Int)=r at *;generalize hq:m / 10=q at *;go_wp2
   go_roundw
   case rel=>exact ⟨q,_,rfl,rfl,by omega,HN.out,HB.out⟩
   case measure=>simp [intOf]; omega
  ·have hm0:m=0:=by omega
   subst hm0;have HD:=hide hmt.done;have hsz:(ByteArray.mk #[109]++out).size≤21:=by rw [ByteArray.size_append]; have:(ByteArray.mk #[109]).size=1:=rfl; omega
   have HS:=hide hsz;clear hsz hmt;go_wp2;go_ret;exact ⟨by rw [← HD.out]; rfl,by rw [← HD.out]; exact HS.out,hb⟩

end Go.Proofs.Ytgmkhoakindpkaa
