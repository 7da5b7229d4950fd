/-
  What is drawn for a net: how great, and the bridges' numbers.
-/
import Derived.Test.YtkoekkjfcaiagaaGreatPSK01
import Derived.Test.YtkoekkjfcaiagaaGreatPSK10
namespace Go.Proofs.YtkoekkjfcaiagaaGreat
set_option maxRecDepth 100000
set_option maxHeartbeats 16000000
open Go.RowKit

theorem zjG (ao:Option Addr) (n c:Nat) (most:Int) (w:World) (hn:n≤1048576) (hm:0≤most) (hm2:most≤1000) :
  Calls Tryz.prog 48 #[.slice ao n c,.int .i64 most] w fun e w'=>∃x:Int,e=.returned (.int .i64 x)∧0≤x∧x≤most∧w'=w:=by
 have hd:(n:Int).tdiv 12=(n:Int) / 12:=Int.tdiv_eq_ediv_of_nonneg (by omega);by_cases h:3+(n:Int) / 12 > most
 ·go_enter Tryz.func48,Tryz.ntmps48;go_wp2;go_ret;exact ⟨most,rfl,hm,Int.le_refl _,rfl⟩
 ·go_enter Tryz.func48,Tryz.ntmps48;go_wp2;go_ret;exact ⟨_,rfl,by omega,by omega,rfl⟩

def idsTo (s:Int):Nat→List Int
 | 0=>[]
 | k+1=>idsTo s k++[1+(s+(k:Int)*3) % 7]
theorem zbM (s:Int):∀k,(idsTo s k).length=k
 | 0=>rfl
 | k+1=>by rw [idsTo,List.length_append,zbM s k]; rfl

theorem zhR (C:Nat) (a0:Option Addr) (l0 c0:Nat) (z0:List Int) (m:Nat) (w:World) (hc:Cur w C a0 l0 c0 z0) (hm:m≤100) :
  Calls Tryz.prog 39 #[.pointer (some ⟨C,0,none⟩),.int .i64 m] w fun e w'=>∃(s:Int) (ao:Option Addr) (cap:Nat),0≤s∧s < 7∧e=.returned (.slice ao m cap)∧w'.ownsRow w.heap.size 3 1 (.slice ao m cap) m (intF.all (idsTo s m))∧Went w w' C a0 l0 c0 z0:=by
 have hlt:=hc.lt;go_enter Tryz.func39,Tryz.ntmps39;go_wp2_with fail
 generalize hw1:w.alloc (Obj.cells #[] 3)=w1;have b1:=zb hw1;have o1:=zaK intF w w1 3 w.heap.size (zk hw1) (Nat.le_refl _);have wn1:=Went.start hc b1;clear hw1 b1;refine (zal C a0 l0 c0 z0 7 _ wn1.cur (by omega)).mono ?_;rintro e w2 ⟨s,rfl,hs0,hs7,-,wt⟩;have hs7:s < 7:=hs7 (by omega);have wn2:=wn1.trans wt;have o2:=zG o1 wt.grown (fun b hb=>by cases hb; exact hlt);clear o1 wn1 wt;go_wp2_with fail
 go_loopw [5,7] (fun o i wr=>∃(k:Nat) (ao:Option Addr) (cap:Nat),k≤m∧i=.int .i64 k∧o=.slice ao k cap∧wr.ownsRow w.heap.size 3 1 (.slice ao k cap) k (intF.all (idsTo s k))∧Went w wr C a0 l0 c0 z0) (fun _ i _=>m - (intOf i).toNat)
 case atStart=>exact ⟨0,_,_,Nat.zero_le _,rfl,rfl,o2,wn2⟩
 case round =>
  obtain ⟨k,ao,cap,hk,rfl,rfl,ok,wk⟩:=hrel;clear o2 wn2;by_cases hlt2:k < m
  ·have hmm:(s+(k:Int)*3).tmod 7=(s+(k:Int)*3) % 7:=Int.tmod_eq_emod_of_nonneg (by omega);have hr0:0≤(s+(k:Int)*3) % 7∧(s+(k:Int)*3) % 7 < 7:=by omega
   have hb9:=wk.grown.size;have gone:GRow intF (wr.alloc (.cells #[.int .i64 (1+(s+(k:Int)*3) % 7)] 3)) (some ⟨wr.heap.size,0,none⟩) 1 1 [1+(s+(k:Int)*3) % 7]:=zbU intF wr _ _ _ rfl;have oA:=zh ok (zm wr (.cells #[.int .i64 (1+(s+(k:Int)*3) % 7)] 3));have WA:=hide (wk.made (zm wr (.cells #[.int .i64 (1+(s+(k:Int)*3) % 7)] 3)));have hbA:w.heap.size≤(wr.alloc (.cells #[.int .i64 (1+(s+(k:Int)*3) % 7)] 3)).heap.size:=by rw [World.size_alloc]; omega
   go_wp2_with (at_builtin; refine zM (F:=intF) _ rfl _ _ 24 3 rfl w.heap.size Tryz.underlying24 Tryz.infoI64 rfl (by decide) _ k (idsTo s k) rfl oA (some ⟨wr.heap.size,0,none⟩) 1 1 [1+(s+(k:Int)*3) % 7] rfl gone (by omega) hbA ?_)
   intro a7 c7 w7 how hr hgr hb7;have HO:Hid (w7.ownsRow w.heap.size 3 1 (.slice a7 (k+1) c7) (k+1) (intF.all (idsTo s (k+1)))):=hide how;have HW:=hide (WA.out.madeAt hb7 hlt (Nat.le_refl _));clear how hr hgr hb7 gone oA hbA ok wk;go_wp2
   go_roundw
   case rel=>exact ⟨k+1,a7,c7,by omega,by go_num,rfl,HO.out,HW.out⟩
   case measure=>simp [intOf]; omega
  ·have hkm:k=m:=by omega
   subst hkm;have HO:=hide ok;have HW:=hide wk;have HS:=hide (And.intro hs0 hs7);clear ok wk;go_wp2;go_ret;exact ⟨s,ao,cap,HS.out.1,HS.out.2,rfl,HO.out,HW.out⟩

end Go.Proofs.YtkoekkjfcaiagaaGreat
