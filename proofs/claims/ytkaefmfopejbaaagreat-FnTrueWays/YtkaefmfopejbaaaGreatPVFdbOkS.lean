/-
  Whether entries are right, as the specification has it.
-/
import Derived.Test.YtkaefmfopejbaaaGreatPVK03
namespace Go.Proofs.YtkaefmfopejbaaaGreat
set_option maxRecDepth 100000
set_option maxHeartbeats 16000000
open Go.RowKit

abbrev q59:Oper:=⟨some 10,.move (.tmp 0),39,"l08_fdb.go:19",#[],none⟩
abbrev q60:Oper:=⟨some 11,.move (.tmp 3),3,"l08_fdb.go:19",#[],none⟩
abbrev q61:Oper:=⟨some 12,.indexAddr 39 (.tmp 10) (.tmp 11),0,"l08_fdb.go:19",#[⟨0,.data⟩,⟨1,.data⟩],none⟩
abbrev q62:Oper:=⟨some 13,.load 145 (.tmp 12),145,"l08_fdb.go:19",#[⟨2,.data⟩],none⟩
abbrev q63:Oper:=⟨some 14,.call ⟨.value (.func 164),#[.tmp 13],#[145]⟩,4,"l08_fdb.go:19",#[⟨3,.data⟩],none⟩
abbrev q64:Oper:=⟨some 15,.unOp .not 4 (.tmp 14),4,"l08_fdb.go:19",#[⟨4,.data⟩],none⟩
abbrev q65:Oper:=⟨some 16,.move (.tmp 15),4,"l08_fdb.go:19",#[⟨5,.data⟩,⟨4,.chain⟩],none⟩
abbrev q66:Oper:=⟨some 17,.move (.tmp 3),3,"l08_fdb.go:19",#[⟨6,.guard⟩],some (6,false)⟩
abbrev q67:Oper:=⟨some 18,.binOp .gtr 3 (.tmp 17) (.const (.int .i64 0)) 3,4,"l08_fdb.go:19",#[⟨7,.data⟩,⟨6,.guard⟩],some (6,false)⟩
abbrev q68:Oper:=⟨some 19,.move (.tmp 18),4,"l08_fdb.go:19",#[⟨8,.data⟩,⟨6,.chain⟩,⟨6,.guard⟩],some (6,false)⟩
abbrev q69:Oper:=⟨some 20,.move (.tmp 0),39,"l08_fdb.go:19",#[⟨9,.guard⟩],some (9,true)⟩
abbrev q70:Oper:=⟨some 21,.move (.tmp 3),3,"l08_fdb.go:19",#[⟨9,.guard⟩],some (9,true)⟩
abbrev q71:Oper:=⟨some 22,.binOp .sub 3 (.tmp 21) (.const (.int .i64 1)) 3,3,"l08_fdb.go:19",#[⟨11,.data⟩,⟨9,.guard⟩],some (9,true)⟩
abbrev q72:Oper:=⟨some 23,.indexAddr 39 (.tmp 20) (.tmp 22),0,"l08_fdb.go:19",#[⟨10,.data⟩,⟨12,.data⟩,⟨9,.guard⟩],some (9,true)⟩
abbrev q73:Oper:=⟨some 24,.load 145 (.tmp 23),145,"l08_fdb.go:19",#[⟨13,.data⟩,⟨9,.guard⟩],some (9,true)⟩
abbrev q74:Oper:=⟨some 25,.move (.tmp 0),39,"l08_fdb.go:19",#[⟨9,.guard⟩],some (9,true)⟩
abbrev q75:Oper:=⟨some 26,.move (.tmp 3),3,"l08_fdb.go:19",#[⟨9,.guard⟩],some (9,true)⟩
abbrev q76:Oper:=⟨some 27,.indexAddr 39 (.tmp 25) (.tmp 26),0,"l08_fdb.go:19",#[⟨15,.data⟩,⟨16,.data⟩,⟨9,.guard⟩],some (9,true)⟩
abbrev q77:Oper:=⟨some 28,.fieldAddr 145 (.tmp 27) 0,0,"l08_fdb.go:19",#[⟨17,.data⟩,⟨9,.guard⟩],some (9,true)⟩
abbrev q78:Oper:=⟨some 29,.load 3 (.tmp 28),3,"l08_fdb.go:19",#[⟨18,.data⟩,⟨9,.guard⟩],some (9,true)⟩
abbrev q79:Oper:=⟨some 30,.move (.tmp 0),39,"l08_fdb.go:19",#[⟨9,.guard⟩],some (9,true)⟩
abbrev q80:Oper:=⟨some 31,.move (.tmp 3),3,"l08_fdb.go:19",#[⟨9,.guard⟩],some (9,true)⟩
abbrev q81:Oper:=⟨some 32,.indexAddr 39 (.tmp 30) (.tmp 31),0,"l08_fdb.go:19",#[⟨20,.data⟩,⟨21,.data⟩,⟨9,.guard⟩],some (9,true)⟩
abbrev q82:Oper:=⟨some 33,.fieldAddr 145 (.tmp 32) 1,0,"l08_fdb.go:19",#[⟨22,.data⟩,⟨9,.guard⟩],some (9,true)⟩
abbrev q83:Oper:=⟨some 34,.load 3 (.tmp 33),3,"l08_fdb.go:19",#[⟨23,.data⟩,⟨9,.guard⟩],some (9,true)⟩
abbrev q84:Oper:=⟨some 35,.call ⟨.value (.func 165),#[.tmp 24,.tmp 29,.tmp 34],#[145,3,3]⟩,4,"l08_fdb.go:19",#[⟨14,.data⟩,⟨19,.data⟩,⟨24,.data⟩,⟨9,.chain⟩,⟨9,.guard⟩],some (9,true)⟩
abbrev q85:Oper:=⟨some 36,.unOp .not 4 (.tmp 35),4,"l08_fdb.go:19",#[⟨25,.data⟩,⟨9,.guard⟩],some (9,true)⟩
abbrev q86:Oper:=⟨some 37,.pick (.tmp 19) (.tmp 36) (.const (.bool false)),4,"l08_fdb.go:19",#[⟨9,.data⟩,⟨26,.data⟩,⟨6,.guard⟩],some (6,false)⟩
abbrev q87:Oper:=⟨some 38,.pick (.tmp 16) (.const (.bool true)) (.tmp 37),4,"l08_fdb.go:19",#[⟨6,.data⟩,⟨27,.data⟩],none⟩

theorem zhL (x:Int) (h : -9223372036854775808≤x∧x≤9223372036854775807):IntKind.i64.wrap x=x:=by
 rw [IntKind.wrap_i64]; omega

theorem at5 {w w':World} {b off n cap:Nat} {l:List FE} (h:GRow fentF w (some ⟨b,off,none⟩) n cap l) (hb:Below w.heap.size w w'):GRow fentF w' (some ⟨b,off,none⟩) n cap l∧∀(i:Nat) (x:FE),l[i]? = some x →
  w'.cell? ⟨b,off+i*5,none⟩=some (.int .i64 x.t)∧w'.cell? ⟨b,off+i*5+1,none⟩=some (.int .i64 x.m)∧w'.cell? ⟨b,off+i*5+2,none⟩=some (.int .i64 x.p)∧w'.cell? ⟨b,off+i*5+3,none⟩=some (.int .i64 x.a)∧w'.cell? ⟨b,off+i*5+4,none⟩=some (.bool x.s):=by
 refine ⟨h.below hb,fun i x hx => ?_⟩;have hi:i < n:=by
  have:=(List.getElem?_eq_some_iff.1 hx).1
  have:=h.size
  omega
 obtain ⟨y,b',off',hy,e,c⟩:=zek (h.below hb) i hi;cases e;rw [hx] at hy;cases hy;exact c

theorem za4 (ao:Option Addr) (n cap:Nat) (l:List FE) (w:World) (h:GRow fentF w ao n cap l) :
  Calls Tryz.prog 138 #[.slice ao n cap] w fun r w'=>r=.returned (.bool (fdbOk l))∧Below w.heap.size w w':=by
 have hle:=h.le;have htop:=h.top;unfold maxLen at htop;have hsz:=h.size;go_enter Tryz.func138,Tryz.ntmps138;go_wp2_with fail
 go_loopw [3] (fun i wr=>∃k:Nat,k≤n∧i=.int .i64 k∧okTo l k∧Below w.heap.size w wr) (fun i _=>n - (intOf i).toNat)
 case atStart=>exact ⟨0,Nat.zero_le _,rfl,fun i x hi=>by omega,Below.refl _ _⟩
 case round =>
  obtain ⟨k,hk,rfl,hok,hb⟩:=hrel;by_cases hlt:k < n
  ·obtain ⟨x,b,off,hx,rfl,-⟩:=zek h k hlt;have hr:=h.below hb;have vv:Below wr.heap.size wr wr.drew:=zG (Below.refl _ _);have i1:(0:Int)≤(k:Int):=by omega
   have i2:(k:Int) < (n:Int):=by omega
   have HB:=hide hb;clear hb;cases he:entOk x
   ·have HE:=hide he;have HN:=hide (zeK (l:=l) (fun hall=>by have:=(hall k x (by omega) hx).1; rw [he] at this; cases this));clear he;(go_wp2_with fail);refine wp_region_held_drew (S:=(fun W=>zcc W b (off+k*5) (.int .i64 x.t)∧zcc W b (off+k*5+1) (.int .i64 x.m)∧zcc W b (off+k*5+2) (.int .i64 x.p)∧zcc W b (off+k*5+3) (.int .i64 x.a)∧zcc W b (off+k*5+4) (.bool x.s))) (by kernel_rfl) ((at5 hr vv).2 k x hx) (fun hHeld => ?_);refine kK 0 q59 ?_;refine kK 1 q60 ?_;refine kK 2 q61 ?_;refine kK 3 q62 ?_;refine kR 4 q63 (fun K hK => ?_);go_simp;refine (zbE x _).mono ?_;rintro r wx ⟨rfl,hbx⟩;rw [HE.out];have vv:=zc vv hbx;(go_wp2_with fail);refine kO hK ((at5 hr vv).2 k x hx) fun hHeld => ?_
    clear hK K;refine kK 5 q64 ?_;refine kK 6 q65 ?_;refine kN 7 q66 ?_;refine kN 8 q67 ?_;refine kN 9 q68 ?_;refine kN 10 q69 ?_;refine kN 11 q70 ?_;refine kN 12 q71 ?_;refine kN 13 q72 ?_;refine kN 14 q73 ?_;refine kN 15 q74 ?_;refine kN 16 q75 ?_;refine kN 17 q76 ?_;refine kN 18 q77 ?_;refine kN 19 q78 ?_;refine kN 20 q79 ?_;refine kN 21 q80 ?_;refine kN 22 q81 ?_;refine kN 23 q82 ?_;refine kN 24 q83 ?_;refine kN 25 q84 ?_;refine kN 26 q85 ?_;refine kN 27 q86 ?_;refine kK 28 q87 ?_;refine wpAnyH_done (by kernel_rfl) ?_ _;go_wp2;go_ret;exact ⟨zai HN.out.symm,zc HB.out vv⟩
   ·have HE:=hide he;by_cases hk0:k=0
    ·have HO:=hide (zeV hok hx he (fun y hy=>by omega));have hgt:¬0 < k:=by omega
     clear he hok hk0;(go_wp2_with fail);refine wp_region_held_drew (S:=(fun W=>zcc W b (off+k*5) (.int .i64 x.t)∧zcc W b (off+k*5+1) (.int .i64 x.m)∧zcc W b (off+k*5+2) (.int .i64 x.p)∧zcc W b (off+k*5+3) (.int .i64 x.a)∧zcc W b (off+k*5+4) (.bool x.s))) (by kernel_rfl) ((at5 hr vv).2 k x hx) (fun hHeld => ?_);refine kK 0 q59 ?_;refine kK 1 q60 ?_;refine kK 2 q61 ?_;refine kK 3 q62 ?_;refine kR 4 q63 (fun K hK => ?_);go_simp;refine (zbE x _).mono ?_;rintro r wx ⟨rfl,hbx⟩;rw [HE.out];have vv:=zc vv hbx;(go_wp2_with fail);refine kO hK ((at5 hr vv).2 k x hx) fun hHeld => ?_
     clear hK K;refine kK 5 q64 ?_;refine kK 6 q65 ?_;refine kK 7 q66 ?_;refine kV 8 q67 (.bool false) ?_;refine kK 9 q68 ?_;refine kN 10 q69 ?_;refine kN 11 q70 ?_;refine kN 12 q71 ?_;refine kN 13 q72 ?_;refine kN 14 q73 ?_;refine kN 15 q74 ?_;refine kN 16 q75 ?_;refine kN 17 q76 ?_;refine kN 18 q77 ?_;refine kN 19 q78 ?_;refine kN 20 q79 ?_;refine kN 21 q80 ?_;refine kN 22 q81 ?_;refine kN 23 q82 ?_;refine kN 24 q83 ?_;refine kN 25 q84 ?_;refine kN 26 q85 ?_;refine kK 27 q86 ?_;refine kK 28 q87 ?_;refine wpAnyH_done (by kernel_rfl) ?_ _;go_wp2
     go_roundw
     case rel=>exact ⟨k+1,by omega,by go_num,HO.out,zc HB.out vv⟩
     case measure=>simp [intOf]; omega
    ·obtain ⟨j,hj⟩:∃j:Nat,k=j+1:=⟨k - 1,by omega⟩;obtain ⟨y,hy⟩:∃y,l[j]? = some y:=⟨l[j]'(by omega),List.getElem?_eq_getElem (by omega)⟩;have hgt:0 < k:=by omega
     have hw:IntKind.i64.wrap ((k:Int) - 1)=(j:Int):=by rw [zhL _ (by omega)]; omega
     have i3:(0:Int)≤(j:Int):=by omega
     have i4:(j:Int) < (n:Int):=by omega
     cases ha:ahead y x.t x.m
     ·have HA:=hide ha;have HN:=hide (zeK (l:=l) (fun hall=>by have:=(hall k x (by omega) hx).2 y (by omega) (by rw [show k - 1=j by omega]; exact hy); rw [ha] at this; cases this));have HJ:=hide hj;clear he ha hok hk0 hj;(go_wp2_with fail);refine wp_region_held_drew (S:=(fun W=>(zcc W b (off+k*5) (.int .i64 x.t)∧zcc W b (off+k*5+1) (.int .i64 x.m)∧zcc W b (off+k*5+2) (.int .i64 x.p)∧zcc W b (off+k*5+3) (.int .i64 x.a)∧zcc W b (off+k*5+4) (.bool x.s))∧(zcc W b (off+j*5) (.int .i64 y.t)∧zcc W b (off+j*5+1) (.int .i64 y.m)∧zcc W b (off+j*5+2) (.int .i64 y.p)∧zcc W b (off+j*5+3) (.int .i64 y.a)∧zcc W b (off+j*5+4) (.bool y.s)))) (by kernel_rfl) (⟨(at5 hr vv).2 k x hx,(at5 hr vv).2 j y hy⟩) (fun hHeld => ?_);refine kK 0 q59 ?_;refine kK 1 q60 ?_;refine kK 2 q61 ?_;refine kK 3 q62 ?_;refine kR 4 q63 (fun K hK => ?_);go_simp;refine (zbE x _).mono ?_;rintro r wx ⟨rfl,hbx⟩;rw [HE.out];have vv:=zc vv hbx;(go_wp2_with fail);refine kO hK (⟨(at5 hr vv).2 k x hx,(at5 hr vv).2 j y hy⟩) fun hHeld => ?_
      clear hK K;refine kK 5 q64 ?_;refine kK 6 q65 ?_;refine kK 7 q66 ?_;refine kV 8 q67 (.bool true) ?_;refine kK 9 q68 ?_;refine kK 10 q69 ?_;refine kK 11 q70 ?_;refine kK 12 q71 ?_;refine kK 13 q72 ?_;refine kK 14 q73 ?_;refine kK 15 q74 ?_;refine kK 16 q75 ?_;refine kK 17 q76 ?_;refine kK 18 q77 ?_;refine kK 19 q78 ?_;refine kK 20 q79 ?_;refine kK 21 q80 ?_;refine kK 22 q81 ?_;refine kK 23 q82 ?_;refine kK 24 q83 ?_;refine kR 25 q84 (fun K hK => ?_);go_simp;refine (zcA y x.t x.m _).mono ?_;rintro r wx ⟨rfl,hbx⟩;rw [HA.out];have vv:=zc vv hbx;(go_wp2_with fail);refine kO hK (⟨(at5 hr vv).2 k x hx,(at5 hr vv).2 j y hy⟩) fun hHeld => ?_
      clear hK K;refine kK 26 q85 ?_;refine kK 27 q86 ?_;refine kK 28 q87 ?_;refine wpAnyH_done (by kernel_rfl) ?_ _;go_wp2;go_ret;exact ⟨zai HN.out.symm,zc HB.out vv⟩
     ·have HA:=hide ha;have HO:=hide (zeV hok hx he (fun z _ hz=>by rw [show k - 1=j by omega,hy] at hz; cases hz; exact ha));have HJ:=hide hj;clear he ha hok hk0 hj;(go_wp2_with fail);refine wp_region_held_drew (S:=(fun W=>(zcc W b (off+k*5) (.int .i64 x.t)∧zcc W b (off+k*5+1) (.int .i64 x.m)∧zcc W b (off+k*5+2) (.int .i64 x.p)∧zcc W b (off+k*5+3) (.int .i64 x.a)∧zcc W b (off+k*5+4) (.bool x.s))∧(zcc W b (off+j*5) (.int .i64 y.t)∧zcc W b (off+j*5+1) (.int .i64 y.m)∧zcc W b (off+j*5+2) (.int .i64 y.p)∧zcc W b (off+j*5+3) (.int .i64 y.a)∧zcc W b (off+j*5+4) (.bool y.s)))) (by kernel_rfl) (⟨(at5 hr vv).2 k x hx,(at5 hr vv).2 j y hy⟩) (fun hHeld => ?_);refine kK 0 q59 ?_;refine kK 1 q60 ?_;refine kK 2 q61 ?_;refine kK 3 q62 ?_;refine kR 4 q63 (fun K hK => ?_);go_simp;refine (zbE x _).mono ?_;rintro r wx ⟨rfl,hbx⟩;rw [HE.out];have vv:=zc vv hbx;(go_wp2_with fail);refine kO hK (⟨(at5 hr vv).2 k x hx,(at5 hr vv).2 j y hy⟩) fun hHeld => ?_
      clear hK K;refine kK 5 q64 ?_;refine kK 6 q65 ?_;refine kK 7 q66 ?_;refine kV 8 q67 (.bool true) ?_;refine kK 9 q68 ?_;refine kK 10 q69 ?_;refine kK 11 q70 ?_;refine kK 12 q71 ?_;refine kK 13 q72 ?_;refine kK 14 q73 ?_;refine kK 15 q74 ?_;refine kK 16 q75 ?_;refine kK 17 q76 ?_;refine kK 18 q77 ?_;refine kK 19 q78 ?_;refine kK 20 q79 ?_;refine kK 21 q80 ?_;refine kK 22 q81 ?_;refine kK 23 q82 ?_;refine kK 24 q83 ?_;refine kR 25 q84 (fun K hK => ?_);go_simp;refine (zcA y x.t x.m _).mono ?_;rintro r wx ⟨rfl,hbx⟩;rw [HA.out];have vv:=zc vv hbx;(go_wp2_with fail);refine kO hK (⟨(at5 hr vv).2 k x hx,(at5 hr vv).2 j y hy⟩) fun hHeld => ?_
      clear hK K;refine kK 26 q85 ?_;refine kK 27 q86 ?_;refine kK 28 q87 ?_;refine wpAnyH_done (by kernel_rfl) ?_ _;go_wp2
      go_roundw
      case rel=>exact ⟨k+1,by omega,by go_num,HO.out,zc HB.out vv⟩
      case measure=>simp [intOf]; omega
  ·have hkn:k=n:=by omega
   have hall:okTo l l.length:=by rw [hsz,← hkn]; exact hok
   have HF:=hide (zg5 hall);have HB:=hide hb;clear hb hok hall;subst hkn;rw [hsz] at HF;go_wp2;go_ret;exact ⟨zai HF.out.symm,HB.out⟩

end Go.Proofs.YtkaefmfopejbaaaGreat
