/-
  Packed: NetOkT NetUpI.
-/
import Derived.Test.YtkoekkjfcaiagaaGreatPSKW
import Derived.Test.YtkoekkjfcaiagaaGreatPSK01
import Derived.Test.YtkoekkjfcaiagaaGreatPSK02
import Derived.Test.YtkoekkjfcaiagaaGreatPSK16
namespace Go.Proofs.YtkoekkjfcaiagaaGreat
set_option maxRecDepth 100000
set_option maxHeartbeats 16000000
open Go.RowKit

abbrev q100:Oper:=⟨some 33,.fieldAddr 44 (.tmp 4) 0,0,"l13_net.go:49",#[],none⟩
abbrev q101:Oper:=⟨some 34,.load 3 (.tmp 33),3,"l13_net.go:49",#[⟨0,.data⟩],none⟩
abbrev q102:Oper:=⟨some 35,.fieldAddr 44 (.tmp 4) 2,0,"l13_net.go:49",#[],none⟩
abbrev q103:Oper:=⟨some 36,.load 3 (.tmp 35),3,"l13_net.go:49",#[⟨2,.data⟩],none⟩
abbrev q104:Oper:=⟨some 37,.binOp .eql 3 (.tmp 34) (.tmp 36) 3,4,"l13_net.go:49",#[⟨1,.data⟩,⟨3,.data⟩],none⟩
abbrev q105:Oper:=⟨some 38,.move (.tmp 37),4,"l13_net.go:49",#[⟨4,.data⟩],none⟩
abbrev q106:Oper:=⟨some 39,.load 31 (.tmp 1),31,"l13_net.go:49",#[⟨5,.guard⟩],some (5,false)⟩
abbrev q107:Oper:=⟨some 40,.fieldAddr 44 (.tmp 4) 0,0,"l13_net.go:49",#[⟨5,.guard⟩],some (5,false)⟩
abbrev q108:Oper:=⟨some 41,.load 3 (.tmp 40),3,"l13_net.go:49",#[⟨7,.data⟩,⟨5,.guard⟩],some (5,false)⟩
abbrev q109:Oper:=⟨some 42,.fieldAddr 44 (.tmp 4) 1,0,"l13_net.go:49",#[⟨5,.guard⟩],some (5,false)⟩
abbrev q110:Oper:=⟨some 43,.load 3 (.tmp 42),3,"l13_net.go:49",#[⟨9,.data⟩,⟨5,.guard⟩],some (5,false)⟩
abbrev q111:Oper:=⟨some 44,.call ⟨.value (.func 58),#[.tmp 39,.tmp 41,.tmp 43],#[31,3,3]⟩,4,"l13_net.go:49",#[⟨6,.data⟩,⟨8,.data⟩,⟨10,.data⟩,⟨5,.chain⟩,⟨5,.guard⟩],some (5,false)⟩
abbrev q112:Oper:=⟨some 45,.unOp .not 4 (.tmp 44),4,"l13_net.go:49",#[⟨11,.data⟩,⟨5,.guard⟩],some (5,false)⟩
abbrev q113:Oper:=⟨some 46,.pick (.tmp 38) (.const (.bool true)) (.tmp 45),4,"l13_net.go:49",#[⟨5,.data⟩,⟨12,.data⟩],none⟩
abbrev q114:Oper:=⟨some 47,.move (.tmp 46),4,"l13_net.go:49",#[⟨13,.data⟩,⟨11,.chain⟩],none⟩
abbrev q115:Oper:=⟨some 48,.load 31 (.tmp 1),31,"l13_net.go:49",#[⟨14,.guard⟩],some (14,false)⟩
abbrev q116:Oper:=⟨some 49,.fieldAddr 44 (.tmp 4) 2,0,"l13_net.go:49",#[⟨14,.guard⟩],some (14,false)⟩
abbrev q117:Oper:=⟨some 50,.load 3 (.tmp 49),3,"l13_net.go:49",#[⟨16,.data⟩,⟨14,.guard⟩],some (14,false)⟩
abbrev q118:Oper:=⟨some 51,.fieldAddr 44 (.tmp 4) 3,0,"l13_net.go:49",#[⟨14,.guard⟩],some (14,false)⟩
abbrev q119:Oper:=⟨some 52,.load 3 (.tmp 51),3,"l13_net.go:49",#[⟨18,.data⟩,⟨14,.guard⟩],some (14,false)⟩
abbrev q120:Oper:=⟨some 53,.call ⟨.value (.func 58),#[.tmp 48,.tmp 50,.tmp 52],#[31,3,3]⟩,4,"l13_net.go:49",#[⟨15,.data⟩,⟨17,.data⟩,⟨19,.data⟩,⟨14,.chain⟩,⟨14,.guard⟩],some (14,false)⟩
abbrev q121:Oper:=⟨some 54,.unOp .not 4 (.tmp 53),4,"l13_net.go:49",#[⟨20,.data⟩,⟨14,.guard⟩],some (14,false)⟩
abbrev q122:Oper:=⟨some 55,.pick (.tmp 47) (.const (.bool true)) (.tmp 54),4,"l13_net.go:49",#[⟨14,.data⟩,⟨21,.data⟩],none⟩
abbrev q123:Oper:=⟨some 56,.move (.tmp 55),4,"l13_net.go:49",#[⟨22,.data⟩,⟨20,.chain⟩],none⟩
abbrev q124:Oper:=⟨some 57,.fieldAddr 31 (.tmp 1) 0,0,"l13_net.go:49",#[⟨23,.guard⟩],some (23,false)⟩
abbrev q125:Oper:=⟨some 58,.load 28 (.tmp 57),28,"l13_net.go:49",#[⟨24,.data⟩,⟨23,.guard⟩],some (23,false)⟩
abbrev q126:Oper:=⟨some 59,.fieldAddr 44 (.tmp 4) 0,0,"l13_net.go:49",#[⟨23,.guard⟩],some (23,false)⟩
abbrev q127:Oper:=⟨some 60,.load 3 (.tmp 59),3,"l13_net.go:49",#[⟨26,.data⟩,⟨23,.guard⟩],some (23,false)⟩
abbrev q128:Oper:=⟨some 61,.indexAddr 28 (.tmp 58) (.tmp 60),0,"l13_net.go:49",#[⟨25,.data⟩,⟨27,.data⟩,⟨23,.guard⟩],some (23,false)⟩
abbrev q129:Oper:=⟨some 62,.fieldAddr 63 (.tmp 61) 2,0,"l13_net.go:49",#[⟨28,.data⟩,⟨23,.guard⟩],some (23,false)⟩
abbrev q130:Oper:=⟨some 63,.load 57 (.tmp 62),57,"l13_net.go:49",#[⟨29,.data⟩,⟨23,.guard⟩],some (23,false)⟩
abbrev q131:Oper:=⟨some 64,.fieldAddr 44 (.tmp 4) 1,0,"l13_net.go:49",#[⟨23,.guard⟩],some (23,false)⟩
abbrev q132:Oper:=⟨some 65,.load 3 (.tmp 64),3,"l13_net.go:49",#[⟨31,.data⟩,⟨23,.guard⟩],some (23,false)⟩
abbrev q133:Oper:=⟨some 66,.indexAddr 57 (.tmp 63) (.tmp 65),0,"l13_net.go:49",#[⟨30,.data⟩,⟨32,.data⟩,⟨23,.guard⟩],some (23,false)⟩
abbrev q134:Oper:=⟨some 67,.fieldAddr 67 (.tmp 66) 0,0,"l13_net.go:49",#[⟨33,.data⟩,⟨23,.guard⟩],some (23,false)⟩
abbrev q135:Oper:=⟨some 68,.load 4 (.tmp 67),4,"l13_net.go:49",#[⟨34,.data⟩,⟨23,.guard⟩],some (23,false)⟩
abbrev q136:Oper:=⟨some 69,.fieldAddr 31 (.tmp 1) 0,0,"l13_net.go:49",#[⟨23,.guard⟩],some (23,false)⟩
abbrev q137:Oper:=⟨some 70,.load 28 (.tmp 69),28,"l13_net.go:49",#[⟨36,.data⟩,⟨23,.guard⟩],some (23,false)⟩
abbrev q138:Oper:=⟨some 71,.fieldAddr 44 (.tmp 4) 2,0,"l13_net.go:49",#[⟨23,.guard⟩],some (23,false)⟩
abbrev q139:Oper:=⟨some 72,.load 3 (.tmp 71),3,"l13_net.go:49",#[⟨38,.data⟩,⟨23,.guard⟩],some (23,false)⟩
abbrev q140:Oper:=⟨some 73,.indexAddr 28 (.tmp 70) (.tmp 72),0,"l13_net.go:49",#[⟨37,.data⟩,⟨39,.data⟩,⟨23,.guard⟩],some (23,false)⟩
abbrev q141:Oper:=⟨some 74,.fieldAddr 63 (.tmp 73) 2,0,"l13_net.go:49",#[⟨40,.data⟩,⟨23,.guard⟩],some (23,false)⟩
abbrev q142:Oper:=⟨some 75,.load 57 (.tmp 74),57,"l13_net.go:49",#[⟨41,.data⟩,⟨23,.guard⟩],some (23,false)⟩
abbrev q143:Oper:=⟨some 76,.fieldAddr 44 (.tmp 4) 3,0,"l13_net.go:49",#[⟨23,.guard⟩],some (23,false)⟩
abbrev q144:Oper:=⟨some 77,.load 3 (.tmp 76),3,"l13_net.go:49",#[⟨43,.data⟩,⟨23,.guard⟩],some (23,false)⟩
abbrev q145:Oper:=⟨some 78,.indexAddr 57 (.tmp 75) (.tmp 77),0,"l13_net.go:49",#[⟨42,.data⟩,⟨44,.data⟩,⟨23,.guard⟩],some (23,false)⟩
abbrev q146:Oper:=⟨some 79,.fieldAddr 67 (.tmp 78) 0,0,"l13_net.go:49",#[⟨45,.data⟩,⟨23,.guard⟩],some (23,false)⟩
abbrev q147:Oper:=⟨some 80,.load 4 (.tmp 79),4,"l13_net.go:49",#[⟨46,.data⟩,⟨23,.guard⟩],some (23,false)⟩
abbrev q148:Oper:=⟨some 81,.binOp .neq 4 (.tmp 68) (.tmp 80) 4,4,"l13_net.go:49",#[⟨35,.data⟩,⟨47,.data⟩,⟨23,.guard⟩],some (23,false)⟩
abbrev q149:Oper:=⟨some 82,.pick (.tmp 56) (.const (.bool true)) (.tmp 81),4,"l13_net.go:49",#[⟨23,.data⟩,⟨48,.data⟩],none⟩
abbrev q150:Oper:=⟨some 90,.fieldAddr 31 (.tmp 1) 2,0,"l13_net.go:54",#[],none⟩
abbrev q151:Oper:=⟨some 91,.load 29 (.tmp 90),29,"l13_net.go:54",#[⟨0,.data⟩],none⟩
abbrev q152:Oper:=⟨some 92,.move (.tmp 5),3,"l13_net.go:54",#[],none⟩
abbrev q153:Oper:=⟨some 93,.indexAddr 29 (.tmp 91) (.tmp 92),0,"l13_net.go:54",#[⟨1,.data⟩,⟨2,.data⟩],none⟩
abbrev q154:Oper:=⟨some 94,.fieldAddr 90 (.tmp 93) 0,0,"l13_net.go:54",#[⟨3,.data⟩],none⟩
abbrev q155:Oper:=⟨some 95,.load 3 (.tmp 94),3,"l13_net.go:54",#[⟨4,.data⟩],none⟩
abbrev q156:Oper:=⟨some 96,.fieldAddr 31 (.tmp 1) 1,0,"l13_net.go:54",#[],none⟩
abbrev q157:Oper:=⟨some 97,.load 25 (.tmp 96),25,"l13_net.go:54",#[⟨6,.data⟩],none⟩
abbrev q158:Oper:=⟨some 98,.call ⟨.builtin .len,#[.tmp 97],#[25]⟩,3,"l13_net.go:54",#[⟨7,.data⟩],none⟩
abbrev q159:Oper:=⟨some 99,.binOp .sub 3 (.tmp 98) (.const (.int .i64 1)) 3,3,"l13_net.go:54",#[⟨8,.data⟩],none⟩
abbrev q160:Oper:=⟨some 100,.call ⟨.value (.func 59),#[.tmp 95,.const (.int .i64 0),.tmp 99],#[3,3,3]⟩,4,"l13_net.go:54",#[⟨5,.data⟩,⟨9,.data⟩],none⟩
abbrev q161:Oper:=⟨some 101,.unOp .not 4 (.tmp 100),4,"l13_net.go:54",#[⟨10,.data⟩],none⟩
abbrev q162:Oper:=⟨some 102,.move (.tmp 101),4,"l13_net.go:54",#[⟨11,.data⟩,⟨10,.chain⟩],none⟩
abbrev q163:Oper:=⟨some 103,.fieldAddr 31 (.tmp 1) 2,0,"l13_net.go:54",#[⟨12,.guard⟩],some (12,false)⟩
abbrev q164:Oper:=⟨some 104,.load 29 (.tmp 103),29,"l13_net.go:54",#[⟨13,.data⟩,⟨12,.guard⟩],some (12,false)⟩
abbrev q165:Oper:=⟨some 105,.move (.tmp 5),3,"l13_net.go:54",#[⟨12,.guard⟩],some (12,false)⟩
abbrev q166:Oper:=⟨some 106,.indexAddr 29 (.tmp 104) (.tmp 105),0,"l13_net.go:54",#[⟨14,.data⟩,⟨15,.data⟩,⟨12,.guard⟩],some (12,false)⟩
abbrev q167:Oper:=⟨some 107,.fieldAddr 90 (.tmp 106) 2,0,"l13_net.go:54",#[⟨16,.data⟩,⟨12,.guard⟩],some (12,false)⟩
abbrev q168:Oper:=⟨some 108,.load 65 (.tmp 107),65,"l13_net.go:54",#[⟨17,.data⟩,⟨12,.guard⟩],some (12,false)⟩
abbrev q169:Oper:=⟨some 109,.call ⟨.value (.func 60),#[.tmp 108],#[65]⟩,4,"l13_net.go:54",#[⟨18,.data⟩,⟨12,.chain⟩,⟨12,.guard⟩],some (12,false)⟩
abbrev q170:Oper:=⟨some 110,.unOp .not 4 (.tmp 109),4,"l13_net.go:54",#[⟨19,.data⟩,⟨12,.guard⟩],some (12,false)⟩
abbrev q171:Oper:=⟨some 111,.pick (.tmp 102) (.const (.bool true)) (.tmp 110),4,"l13_net.go:54",#[⟨12,.data⟩,⟨20,.data⟩],none⟩

theorem zhs {N:NV} {w:World} (h:zax w N) {b p:Int} {u:PT} (hp:zaf N.brs b p=some u):∃(k j bb off pb po n c:Nat),b=(k:Int)∧p=(j:Int)∧k < N.bn∧j < n∧N.ba=some ⟨bb,off,none⟩∧w.cell? ⟨bb,off+k*11+2,none⟩=some (.slice (some ⟨pb,po,none⟩) n c)∧w.cell? ⟨pb,po+j*8,none⟩=some (.bool u.up):=by
 unfold zaf at hp
 split at hp
 ·rename_i hc
  obtain ⟨k,rfl⟩:∃k:Nat,b=(k:Int):=⟨b.toNat,by omega⟩;obtain ⟨j,rfl⟩:∃j:Nat,p=(j:Int):=⟨p.toNat,by omega⟩;rw [Int.toNat_natCast,Int.toNat_natCast] at hp;cases hB:N.brs[k]? with
  | none=>rw [hB] at hp; cases hp
  | some B =>
   rw [hB] at hp;have hp:B.ports[j]?=some u:=hp;obtain ⟨x,hx,rfl⟩:=bs_at hB;have hk:k < N.bn:=by have:=(List.getElem?_eq_some_iff.1 hx).1; have:=h.b.size; omega
   obtain ⟨x',bb,off,hx',hba,-,-,c2,-⟩:=br_at h.b k hk;rw [hx] at hx';cases hx';have hr:=h.item x (List.mem_of_getElem? hx);have hj:j < x.n:=by have:=(List.getElem?_eq_some_iff.1 hp).1; have:=hr.ports.size; omega
   obtain ⟨y,pb,po,hy,hpa,d0,-⟩:=pt_at hr.ports j hj;rw [hp] at hy;cases hy;rw [hpa] at c2;exact ⟨k,j,bb,off,pb,po,x.n,x.c,rfl,rfl,hk,hj,hba,c2,d0⟩
 ·cases hp

def Says (P:Prop) (w:World) (e:Ending) (w':World):Prop:=∃q:Bool,e=.returned (.bool q)∧(q=true↔P)∧Below w.heap.size w w'

theorem zie {bs:List BR} {ls:List LK} {b p:Int} (h:endOk bs ls b p=true):(∃u,zaf bs b p=some u)∧usedL ls b p=1:=by
 unfold endOk at h;simp only [Bool.and_eq_true,decide_eq_true_eq] at h;exact ⟨Option.isSome_iff_exists.1 h.1,h.2⟩
theorem zjO {bs:List BR} {ls:List LK} {b p:Int} (h:endOk bs ls b p=false):¬((∃u,zaf bs b p=some u)∧usedL ls b p=1):=by
 rintro ⟨⟨u,hu⟩,h2⟩;unfold endOk at h;rw [hu,h2] at h
 simp at h

theorem zdz (N:NV) (w:World) (h:zax w N) (hsm:N.ln≤16777216) :
  Calls Tryz.prog 18 #[.agg #[.slice N.ba N.bn N.bc,.slice N.la N.ln N.lc,.slice N.sa N.sn N.sc]] w fun e w'=>Says (NetOk N.brs N.ls N.ss) w e w':=by
 have hle:=Nat.le_trans h.s.le h.s.top;unfold maxLen at hle;have hlsz:=hide h.l.size;have hssz:=hide h.s.size;generalize hw1:w.alloc (Obj.cells #[.slice N.ba N.bn N.bc,.slice N.la N.ln N.lc,.slice N.sa N.sn N.sc] 31)=w1;have b01:=zb hw1;have k1:=zk hw1;obtain ⟨x0,x1,x2⟩:=zd k1;go_enter Tryz.func18,Tryz.ntmps18;go_wp2_with fail
 refine (zex N _ (h.below b01) hsm).mono ?_;rintro e w2 ⟨q,rfl,hq,hb2⟩;have kNe:=za k1 hb2;have b02:=zc b01 hb2;clear x0 x1 x2 k1 b01 hb2 hw1;obtain ⟨x0,x1,x2⟩:=zd kNe;cases q
 ·have HNO:Hid ((false=true)↔NetOk N.brs N.ls N.ss):=hide (zaH fun hp=>by have:=hq.2 ⟨hp.1,hp.2.2.1⟩; cases this);go_wp2;go_ret;exact ⟨false,rfl,HNO.out,b02⟩
 ·have HBR:=hide (hq.1 rfl);clear hq;by_cases l9:(N.ln:Int) > 9
  ·have HNO:Hid ((false=true)↔NetOk N.brs N.ls N.ss):=hide (zaH fun hp=>by have:=hp.2.1.1; have:=hlsz.out; omega);go_wp2;go_ret;exact ⟨false,rfl,HNO.out,b02⟩
  by_cases s40:(N.sn:Int) > 40
  ·have HNO:Hid ((false=true)↔NetOk N.brs N.ls N.ss):=hide (zaH fun hp=>by have:=hp.2.2.2.1; have:=hssz.out; omega);go_wp2;go_ret;exact ⟨false,rfl,HNO.out,b02⟩
  (go_wp2_with fail);clear x0 x1 x2
  go_loopw [3] (fun i wr=>∃k:Nat,k≤N.ln∧i=.int .i64 k∧(∀y∈N.ls.take k,zfE N.brs N.ls y)∧wr.heap[w.heap.size]?=some (.cells #[.slice N.ba N.bn N.bc,.slice N.la N.ln N.lc,.slice N.sa N.sn N.sc] 31)∧Below w.heap.size w wr) (fun i _=>N.ln - (intOf i).toNat)
  case atStart=>exact ⟨0,Nat.zero_le _,rfl,by intro y hy; simp at hy,kNe,b02⟩
  case round =>
   obtain ⟨k,hk,rfl,hlk,hbox,hb⟩:=hrel;clear kNe b02;obtain ⟨x0,x1,x2⟩:=zd hbox;by_cases hlt:k < N.ln
   ·obtain ⟨x,lb,lo,hx,hla,a0,a1,a2,a3⟩:=zaF (h.l.below hb) k hlt;rw [hla] at x1;clear hla;have i1:(0:Int)≤(k:Int):=by omega
    have i2:(k:Int) < (N.ln:Int):=by omega
    have hmem:=List.mem_of_getElem? hx;have HX:=hide hx;have HLK:=hide hlk;generalize hwa:wr.alloc (Obj.cells #[.int .i64 x.a,.int .i64 x.p,.int .i64 x.b,.int .i64 x.q] 44)=wa;have ba:=zb hwa;have kL:=zk hwa;have kNe:=za hbox ba;have ba:=zc hb ba;have vv:Below wa.heap.size wa wa.drew:=zp (Below.refl _ _);clear hx hlk hb hbox;by_cases hab:x.a=x.b
    ·have HNO:Hid ((false=true)↔NetOk N.brs N.ls N.ss):=hide (zaH fun hp=>(hp.2.1.2 x hmem).1.1 hab);have HAB:=hide hab;clear hab;(go_wp2_with fail);have hab:=HAB.out;refine wp_region_held_drew (S:=(fun W=>(W.cell? ⟨w.heap.size,0,none⟩=some (.slice N.ba N.bn N.bc)∧W.cell? ⟨w.heap.size,1,none⟩=some (.slice N.la N.ln N.lc)∧W.cell? ⟨w.heap.size,2,none⟩=some (.slice N.sa N.sn N.sc))∧(W.cell? ⟨wr.heap.size,0,none⟩=some (.int .i64 x.a)∧W.cell? ⟨wr.heap.size,1,none⟩=some (.int .i64 x.p)∧W.cell? ⟨wr.heap.size,2,none⟩=some (.int .i64 x.b)∧W.cell? ⟨wr.heap.size,3,none⟩=some (.int .i64 x.q)))) (by kernel_rfl) (⟨zd (za kNe vv),zK (za kL vv)⟩) (fun hHeld => ?_);refine kK 0 q100 ?_;refine kK 1 q101 ?_;refine kK 2 q102 ?_;refine kK 3 q103 ?_;refine kV 4 q104 (.bool true) ?_;refine kK 5 q105 ?_;refine kN 6 q106 ?_;refine kN 7 q107 ?_;refine kN 8 q108 ?_;refine kN 9 q109 ?_;refine kN 10 q110 ?_;refine kN 11 q111 ?_;refine kN 12 q112 ?_;refine kK 13 q113 ?_;refine kK 14 q114 ?_;refine kN 15 q115 ?_;refine kN 16 q116 ?_;refine kN 17 q117 ?_;refine kN 18 q118 ?_;refine kN 19 q119 ?_;refine kN 20 q120 ?_;refine kN 21 q121 ?_;refine kK 22 q122 ?_;refine kK 23 q123 ?_;refine kN 24 q124 ?_;refine kN 25 q125 ?_;refine kN 26 q126 ?_;refine kN 27 q127 ?_;refine kN 28 q128 ?_;refine kN 29 q129 ?_;refine kN 30 q130 ?_;refine kN 31 q131 ?_;refine kN 32 q132 ?_;refine kN 33 q133 ?_;refine kN 34 q134 ?_;refine kN 35 q135 ?_;refine kN 36 q136 ?_;refine kN 37 q137 ?_;refine kN 38 q138 ?_;refine kN 39 q139 ?_;refine kN 40 q140 ?_;refine kN 41 q141 ?_;refine kN 42 q142 ?_;refine kN 43 q143 ?_;refine kN 44 q144 ?_;refine kN 45 q145 ?_;refine kN 46 q146 ?_;refine kN 47 q147 ?_;refine kN 48 q148 ?_;refine kK 49 q149 ?_;refine wpAnyH_done (by kernel_rfl) ?_ _;have HB:=hide (zc ba vv);clear hHeld vv kNe kL;go_wp2;go_ret;exact ⟨false,rfl,HNO.out,HB.out⟩
    ·cases h1:endOk N.brs N.ls x.a x.p
     ·have HNO:Hid ((false=true)↔NetOk N.brs N.ls N.ss):=hide (zaH fun hp=>by
       have hl:=hp.2.1.2 x hmem;obtain ⟨u,v,hu,-⟩:=hl.1.2;exact zjO h1 ⟨⟨u,hu⟩,hl.2.1⟩)
      (go_wp2_with fail);refine wp_region_held_drew (S:=(fun W=>(W.cell? ⟨w.heap.size,0,none⟩=some (.slice N.ba N.bn N.bc)∧W.cell? ⟨w.heap.size,1,none⟩=some (.slice N.la N.ln N.lc)∧W.cell? ⟨w.heap.size,2,none⟩=some (.slice N.sa N.sn N.sc))∧(W.cell? ⟨wr.heap.size,0,none⟩=some (.int .i64 x.a)∧W.cell? ⟨wr.heap.size,1,none⟩=some (.int .i64 x.p)∧W.cell? ⟨wr.heap.size,2,none⟩=some (.int .i64 x.b)∧W.cell? ⟨wr.heap.size,3,none⟩=some (.int .i64 x.q)))) (by kernel_rfl) (⟨zd (za kNe vv),zK (za kL vv)⟩) (fun hHeld => ?_);refine kK 0 q100 ?_;refine kK 1 q101 ?_;refine kK 2 q102 ?_;refine kK 3 q103 ?_;refine kV 4 q104 (.bool false) ?_;refine kK 5 q105 ?_;refine kK 6 q106 ?_;refine kK 7 q107 ?_;refine kK 8 q108 ?_;refine kK 9 q109 ?_;refine kK 10 q110 ?_;refine kR 11 q111 (fun K hK => ?_);go_simp;refine (zbS N x.a x.p _ (h.below (zc ba vv)) hsm).mono ?_;rintro r wz ⟨rfl,hbz⟩;rw [h1];have vv:=zc vv hbz;(go_wp2_with fail);refine hK.out _ _ (⟨zd (za kNe vv),zK (za kL vv)⟩) (fun hHeld => ?_);clear hK K;(try simp only [Act.put,lA,lB,lC]);refine kK 12 q112 ?_;refine kK 13 q113 ?_;refine kK 14 q114 ?_;refine kN 15 q115 ?_;refine kN 16 q116 ?_;refine kN 17 q117 ?_;refine kN 18 q118 ?_;refine kN 19 q119 ?_;refine kN 20 q120 ?_;refine kN 21 q121 ?_;refine kK 22 q122 ?_;refine kK 23 q123 ?_;refine kN 24 q124 ?_;refine kN 25 q125 ?_;refine kN 26 q126 ?_;refine kN 27 q127 ?_;refine kN 28 q128 ?_;refine kN 29 q129 ?_;refine kN 30 q130 ?_;refine kN 31 q131 ?_;refine kN 32 q132 ?_;refine kN 33 q133 ?_;refine kN 34 q134 ?_;refine kN 35 q135 ?_;refine kN 36 q136 ?_;refine kN 37 q137 ?_;refine kN 38 q138 ?_;refine kN 39 q139 ?_;refine kN 40 q140 ?_;refine kN 41 q141 ?_;refine kN 42 q142 ?_;refine kN 43 q143 ?_;refine kN 44 q144 ?_;refine kN 45 q145 ?_;refine kN 46 q146 ?_;refine kN 47 q147 ?_;refine kN 48 q148 ?_;refine kK 49 q149 ?_;refine wpAnyH_done (by kernel_rfl) ?_ _;have HB:=hide (zc ba vv);clear hHeld vv kNe kL;go_wp2;go_ret;exact ⟨false,rfl,HNO.out,HB.out⟩
     ·cases h2:endOk N.brs N.ls x.b x.q
      ·have HNO:Hid ((false=true)↔NetOk N.brs N.ls N.ss):=hide (zaH fun hp=>by
        have hl:=hp.2.1.2 x hmem;obtain ⟨u,v,-,hv,-⟩:=hl.1.2;exact zjO h2 ⟨⟨v,hv⟩,hl.2.2⟩)
       (go_wp2_with fail);refine wp_region_held_drew (S:=(fun W=>(W.cell? ⟨w.heap.size,0,none⟩=some (.slice N.ba N.bn N.bc)∧W.cell? ⟨w.heap.size,1,none⟩=some (.slice N.la N.ln N.lc)∧W.cell? ⟨w.heap.size,2,none⟩=some (.slice N.sa N.sn N.sc))∧(W.cell? ⟨wr.heap.size,0,none⟩=some (.int .i64 x.a)∧W.cell? ⟨wr.heap.size,1,none⟩=some (.int .i64 x.p)∧W.cell? ⟨wr.heap.size,2,none⟩=some (.int .i64 x.b)∧W.cell? ⟨wr.heap.size,3,none⟩=some (.int .i64 x.q)))) (by kernel_rfl) (⟨zd (za kNe vv),zK (za kL vv)⟩) (fun hHeld => ?_);refine kK 0 q100 ?_;refine kK 1 q101 ?_;refine kK 2 q102 ?_;refine kK 3 q103 ?_;refine kV 4 q104 (.bool false) ?_;refine kK 5 q105 ?_;refine kK 6 q106 ?_;refine kK 7 q107 ?_;refine kK 8 q108 ?_;refine kK 9 q109 ?_;refine kK 10 q110 ?_;refine kR 11 q111 (fun K hK => ?_);go_simp;refine (zbS N x.a x.p _ (h.below (zc ba vv)) hsm).mono ?_;rintro r wz ⟨rfl,hbz⟩;rw [h1];have vv:=zc vv hbz;(go_wp2_with fail);refine hK.out _ _ (⟨zd (za kNe vv),zK (za kL vv)⟩) (fun hHeld => ?_);clear hK K;(try simp only [Act.put,lA,lB,lC]);refine kK 12 q112 ?_;refine kK 13 q113 ?_;refine kK 14 q114 ?_;refine kK 15 q115 ?_;refine kK 16 q116 ?_;refine kK 17 q117 ?_;refine kK 18 q118 ?_;refine kK 19 q119 ?_;refine kR 20 q120 (fun K hK => ?_);go_simp;refine (zbS N x.b x.q _ (h.below (zc ba vv)) hsm).mono ?_;rintro r wz ⟨rfl,hbz⟩;rw [h2];have vv:=zc vv hbz;(go_wp2_with fail);refine hK.out _ _ (⟨zd (za kNe vv),zK (za kL vv)⟩) (fun hHeld => ?_);clear hK K;(try simp only [Act.put,lA,lB,lC]);refine kK 21 q121 ?_;refine kK 22 q122 ?_;refine kK 23 q123 ?_;refine kN 24 q124 ?_;refine kN 25 q125 ?_;refine kN 26 q126 ?_;refine kN 27 q127 ?_;refine kN 28 q128 ?_;refine kN 29 q129 ?_;refine kN 30 q130 ?_;refine kN 31 q131 ?_;refine kN 32 q132 ?_;refine kN 33 q133 ?_;refine kN 34 q134 ?_;refine kN 35 q135 ?_;refine kN 36 q136 ?_;refine kN 37 q137 ?_;refine kN 38 q138 ?_;refine kN 39 q139 ?_;refine kN 40 q140 ?_;refine kN 41 q141 ?_;refine kN 42 q142 ?_;refine kN 43 q143 ?_;refine kN 44 q144 ?_;refine kN 45 q145 ?_;refine kN 46 q146 ?_;refine kN 47 q147 ?_;refine kN 48 q148 ?_;refine kK 49 q149 ?_;refine wpAnyH_done (by kernel_rfl) ?_ _;have HB:=hide (zc ba vv);clear hHeld vv kNe kL;go_wp2;go_ret;exact ⟨false,rfl,HNO.out,HB.out⟩
      ·obtain ⟨⟨u,hu⟩,u1⟩:=zie h1;obtain ⟨⟨v,hv⟩,v1⟩:=zie h2;have HNO:Hid (u.up≠v.up→((false=true)↔NetOk N.brs N.ls N.ss)):=hide (fun hne=>zaH fun hp=>by
        obtain ⟨u',v',hu',hv',he⟩:=(hp.2.1.2 x hmem).1.2;rw [hu] at hu';rw [hv] at hv';cases hu';cases hv';exact hne he)
       have HYES:Hid (u.up=v.up→∀y∈N.ls.take (k+1),zfE N.brs N.ls y):=hide (fun he=>zbF HX.out HLK.out ⟨⟨hab,u,v,hu,hv,he⟩,u1,v1⟩);obtain ⟨ka,ja,bb,off,pa,oa,na,ca,ea,ep,ia1,ia2,hba,m1,m2⟩:=zhs (h.below ba) hu;obtain ⟨kb,jb,bb',off',pb,ob,nb,cb,eb,eq,ib1,ib2,hba',m3,m4⟩:=zhs (h.below ba) hv;rw [hba] at hba';cases hba';have hG:GRow brF w (some ⟨bb,off,none⟩) N.bn N.bc N.bs:=by rw [← hba]; exact h.b
       have hM:zax w ⟨some ⟨bb,off,none⟩,N.bn,N.bc,N.bs,N.la,N.ln,N.lc,N.ls,N.sa,N.sn,N.sc,N.ss⟩:=⟨hG,h.item,h.l,h.s⟩;rw [ea,ep] at h1;rw [eb,eq] at h2;rw [hba] at kNe;rw [ea,ep,eb,eq] at kL;have hab:¬((ka:Int)=(kb:Int)):=by rw [← ea,← eb]; exact hab
       have HBA:=hide hba;rw [ea] at a0;rw [ep] at a1;rw [eb] at a2;rw [eq] at a3;rw [ea,ep,eb,eq] at hwa;have j1:(0:Int)≤(ka:Int):=by omega
       have j2:(ka:Int) < (N.bn:Int):=by omega
       have j3:(0:Int)≤(ja:Int):=by omega
       have j4:(ja:Int) < (na:Int):=by omega
       have j5:(0:Int)≤(kb:Int):=by omega
       have j6:(kb:Int) < (N.bn:Int):=by omega
       have j7:(0:Int)≤(jb:Int):=by omega
       have j8:(jb:Int) < (nb:Int):=by omega
       clear ea ep eb eq hba hu hv u1 v1 hmem HX HLK;(go_wp2_with fail);refine wp_region_held_drew (S:=(fun W=>(W.cell? ⟨w.heap.size,0,none⟩=some (.slice (some ⟨bb,off,none⟩) N.bn N.bc)∧W.cell? ⟨w.heap.size,1,none⟩=some (.slice N.la N.ln N.lc)∧W.cell? ⟨w.heap.size,2,none⟩=some (.slice N.sa N.sn N.sc))∧(W.cell? ⟨wr.heap.size,0,none⟩=some (.int .i64 (ka:Int))∧W.cell? ⟨wr.heap.size,1,none⟩=some (.int .i64 (ja:Int))∧W.cell? ⟨wr.heap.size,2,none⟩=some (.int .i64 (kb:Int))∧W.cell? ⟨wr.heap.size,3,none⟩=some (.int .i64 (jb:Int)))∧(W.cell? ⟨bb,off+ka*11+2,none⟩=some (.slice (some ⟨pa,oa,none⟩) na ca)∧W.cell? ⟨pa,oa+ja*8,none⟩=some (.bool u.up))∧(W.cell? ⟨bb,off+kb*11+2,none⟩=some (.slice (some ⟨pb,ob,none⟩) nb cb)∧W.cell? ⟨pb,ob+jb*8,none⟩=some (.bool v.up)))) (by kernel_rfl) (⟨zd (za kNe vv),zK (za kL vv),⟨(vv.cell (zl m1)).trans m1,(vv.cell (zl m2)).trans m2⟩,⟨(vv.cell (zl m3)).trans m3,(vv.cell (zl m4)).trans m4⟩⟩) (fun hHeld => ?_);refine kK 0 q100 ?_;refine kK 1 q101 ?_;refine kK 2 q102 ?_;refine kK 3 q103 ?_;refine kV 4 q104 (.bool false) ?_;refine kK 5 q105 ?_;refine kK 6 q106 ?_;refine kK 7 q107 ?_;refine kK 8 q108 ?_;refine kK 9 q109 ?_;refine kK 10 q110 ?_;refine kR 11 q111 (fun K hK => ?_);go_simp;refine (zbS ⟨some ⟨bb,off,none⟩,N.bn,N.bc,N.bs,N.la,N.ln,N.lc,N.ls,N.sa,N.sn,N.sc,N.ss⟩ (ka:Int) (ja:Int) _ (hM.below (zc ba vv)) hsm).mono ?_;rintro r wz ⟨rfl,hbz⟩;rw [show endOk (NV.brs ⟨some ⟨bb,off,none⟩,N.bn,N.bc,N.bs,N.la,N.ln,N.lc,N.ls,N.sa,N.sn,N.sc,N.ss⟩) (NV.ls ⟨some ⟨bb,off,none⟩,N.bn,N.bc,N.bs,N.la,N.ln,N.lc,N.ls,N.sa,N.sn,N.sc,N.ss⟩) (ka:Int) (ja:Int)=true from h1];have vv:=zc vv hbz;(go_wp2_with fail);refine hK.out _ _ (⟨zd (za kNe vv),zK (za kL vv),⟨(vv.cell (zl m1)).trans m1,(vv.cell (zl m2)).trans m2⟩,⟨(vv.cell (zl m3)).trans m3,(vv.cell (zl m4)).trans m4⟩⟩) (fun hHeld => ?_);clear hK K;(try simp only [Act.put,lA,lB,lC]);refine kK 12 q112 ?_;refine kK 13 q113 ?_;refine kK 14 q114 ?_;refine kK 15 q115 ?_;refine kK 16 q116 ?_;refine kK 17 q117 ?_;refine kK 18 q118 ?_;refine kK 19 q119 ?_;refine kR 20 q120 (fun K hK => ?_);go_simp;refine (zbS ⟨some ⟨bb,off,none⟩,N.bn,N.bc,N.bs,N.la,N.ln,N.lc,N.ls,N.sa,N.sn,N.sc,N.ss⟩ (kb:Int) (jb:Int) _ (hM.below (zc ba vv)) hsm).mono ?_;rintro r wz ⟨rfl,hbz⟩;rw [show endOk (NV.brs ⟨some ⟨bb,off,none⟩,N.bn,N.bc,N.bs,N.la,N.ln,N.lc,N.ls,N.sa,N.sn,N.sc,N.ss⟩) (NV.ls ⟨some ⟨bb,off,none⟩,N.bn,N.bc,N.bs,N.la,N.ln,N.lc,N.ls,N.sa,N.sn,N.sc,N.ss⟩) (kb:Int) (jb:Int)=true from h2];have vv:=zc vv hbz;(go_wp2_with fail);refine hK.out _ _ (⟨zd (za kNe vv),zK (za kL vv),⟨(vv.cell (zl m1)).trans m1,(vv.cell (zl m2)).trans m2⟩,⟨(vv.cell (zl m3)).trans m3,(vv.cell (zl m4)).trans m4⟩⟩) (fun hHeld => ?_);clear hK K;(try simp only [Act.put,lA,lB,lC]);refine kK 21 q121 ?_;refine kK 22 q122 ?_;refine kK 23 q123 ?_;refine kK 24 q124 ?_;refine kK 25 q125 ?_;refine kK 26 q126 ?_;refine kK 27 q127 ?_;refine kK 28 q128 ?_;refine kK 29 q129 ?_;refine kK 30 q130 ?_;refine kK 31 q131 ?_;refine kK 32 q132 ?_;refine kK 33 q133 ?_;refine kK 34 q134 ?_;refine kK 35 q135 ?_;refine kK 36 q136 ?_;refine kK 37 q137 ?_;refine kK 38 q138 ?_;refine kK 39 q139 ?_;refine kK 40 q140 ?_;refine kK 41 q141 ?_;refine kK 42 q142 ?_;refine kK 43 q143 ?_;refine kK 44 q144 ?_;refine kK 45 q145 ?_;refine kK 46 q146 ?_;refine kK 47 q147 ?_;refine kK 48 q148 ?_;refine kK 49 q149 ?_;refine wpAnyH_done (by kernel_rfl) ?_ _;have HB:=hide (zc ba vv);have HK:=hide (za kNe vv);clear hHeld vv kNe kL m1 m2 m3 m4;cases hu:u.up <;> cases hv:v.up
       ·go_wp2
        go_roundw
        case rel=>exact ⟨k+1,by omega,by go_num,(HYES.out (by rw [hu,hv])),by rw [HBA.out]; exact HK.out,HB.out⟩
        case measure=>simp [intOf]; omega
       ·go_wp2;go_ret;exact ⟨false,rfl,HNO.out (by rw [hu,hv]; simp),HB.out⟩
       ·go_wp2;go_ret;exact ⟨false,rfl,HNO.out (by rw [hu,hv]; simp),HB.out⟩
       ·go_wp2
        go_roundw
        case rel=>exact ⟨k+1,by omega,by go_num,(HYES.out (by rw [hu,hv])),by rw [HBA.out]; exact HK.out,HB.out⟩
        case measure=>simp [intOf]; omega
   ·have hkn:k=N.ln:=by omega
    rw [List.take_of_length_le (by have:=hlsz.out; omega)] at hlk;have HLK:=hide hlk;clear hlk hlt;(go_wp2_with fail);clear x0 x1 x2
    go_loopw [5] (fun i wr=>∃k:Nat,k≤N.sn∧i=.int .i64 k∧(∀y∈N.ss.take k,SayOk N.ls y)∧wr.heap[w.heap.size]?=some (.cells #[.slice N.ba N.bn N.bc,.slice N.la N.ln N.lc,.slice N.sa N.sn N.sc] 31)∧Below w.heap.size w wr) (fun i _=>N.sn - (intOf i).toNat)
    case atStart=>exact ⟨0,Nat.zero_le _,rfl,by intro y hy; simp at hy,hbox,hb⟩
    case round =>
     clear hbox hb hkn hk;obtain ⟨k,hk,rfl,hss,kNe,hb⟩:=hrel;obtain ⟨x0,x1,x2⟩:=zd kNe;by_cases hlt:k < N.sn
     ·obtain ⟨y,sb,so,hy,hsa,-⟩:=zfb (h.s.below hb) k hlt;have HS:Hid (GRow sayF wr (some ⟨sb,so,none⟩) N.sn N.sc N.ss):=hide (by rw [← hsa]; exact h.s.below hb);have HSA:=hide hsa;have i1:(0:Int)≤(k:Int):=by omega
      have i2:(k:Int) < (N.sn:Int):=by omega
      have hmem:=List.mem_of_getElem? hy;have HY:=hide hy;have HSS:=hide hss;have vv:Below wr.heap.size wr wr.drew:=zp (Below.refl _ _);have hls:=hlsz.out;have hwl:IntKind.i64.wrap ((N.ln:Int) - 1)=(N.ln:Int) - 1:=by rw [IntKind.wrap_i64]; omega
      clear hy hss hsa;cases h1:(decide (0≤y.l) && decide (y.l≤(N.ln:Int) - 1))
      ·have HNO:Hid ((false=true)↔NetOk N.brs N.ls N.ss):=hide (zaH fun hp=>by
        have:=(hp.2.2.2.2 y hmem).1
        rw [hls,h1] at this;cases this)
       (go_wp2_with fail);refine wp_region_held_drew (S:=(fun W=>(W.cell? ⟨w.heap.size,0,none⟩=some (.slice N.ba N.bn N.bc)∧W.cell? ⟨w.heap.size,1,none⟩=some (.slice N.la N.ln N.lc)∧W.cell? ⟨w.heap.size,2,none⟩=some (.slice (some ⟨sb,so,none⟩) N.sn N.sc))∧(W.cell? ⟨sb,so+k*7,none⟩=some (.int .i64 y.l)∧W.cell? ⟨sb,so+k*7+1,none⟩=some (.bool y.back)∧W.cell? ⟨sb,so+k*7+2,none⟩=some (.int .i64 y.v.r)∧W.cell? ⟨sb,so+k*7+3,none⟩=some (.int .i64 y.v.c)∧W.cell? ⟨sb,so+k*7+4,none⟩=some (.int .i64 y.v.h)∧W.cell? ⟨sb,so+k*7+5,none⟩=some (.int .i64 y.v.b)∧W.cell? ⟨sb,so+k*7+6,none⟩=some (.int .i64 y.v.p)))) (by kernel_rfl) (⟨by have:=zd (za kNe vv); rw [HSA.out] at this; exact this,zbo HS.out vv HY.out⟩) (fun hHeld => ?_);refine kK 0 q150 ?_;refine kK 1 q151 ?_;refine kK 2 q152 ?_;refine kK 3 q153 ?_;refine kK 4 q154 ?_;refine kK 5 q155 ?_;refine kK 6 q156 ?_;refine kK 7 q157 ?_;refine kK 8 q158 ?_;refine kK 9 q159 ?_;refine kR 10 q160 (fun K hK => ?_);go_simp;refine (zg y.l 0 ((N.ln:Int) - 1) _).mono ?_;rintro r wz ⟨rfl,ew⟩;obtain rfl:=ew.symm;rw [h1];(go_wp2_with fail);refine hK.out _ _ (⟨by have:=zd (za kNe vv); rw [HSA.out] at this; exact this,zbo HS.out vv HY.out⟩) (fun hHeld => ?_);clear hK K;(try simp only [Act.put,lA,lB,lC]);refine kK 11 q161 ?_;refine kK 12 q162 ?_;refine kN 13 q163 ?_;refine kN 14 q164 ?_;refine kN 15 q165 ?_;refine kN 16 q166 ?_;refine kN 17 q167 ?_;refine kN 18 q168 ?_;refine kN 19 q169 ?_;refine kN 20 q170 ?_;refine kK 21 q171 ?_;refine wpAnyH_done (by kernel_rfl) ?_ _;have HB:=hide (zc hb vv);clear hHeld vv kNe;go_wp2;go_ret;exact ⟨false,rfl,HNO.out,HB.out⟩
      ·cases h2:okVc y.v.r y.v.c y.v.h y.v.b y.v.p
       ·have HNO:Hid ((false=true)↔NetOk N.brs N.ls N.ss):=hide (zaH fun hp=>by
         have:=(hp.2.2.2.2 y hmem).2
         unfold okVd at this;rw [h2] at this;cases this)
        (go_wp2_with fail);refine wp_region_held_drew (S:=(fun W=>(W.cell? ⟨w.heap.size,0,none⟩=some (.slice N.ba N.bn N.bc)∧W.cell? ⟨w.heap.size,1,none⟩=some (.slice N.la N.ln N.lc)∧W.cell? ⟨w.heap.size,2,none⟩=some (.slice (some ⟨sb,so,none⟩) N.sn N.sc))∧(W.cell? ⟨sb,so+k*7,none⟩=some (.int .i64 y.l)∧W.cell? ⟨sb,so+k*7+1,none⟩=some (.bool y.back)∧W.cell? ⟨sb,so+k*7+2,none⟩=some (.int .i64 y.v.r)∧W.cell? ⟨sb,so+k*7+3,none⟩=some (.int .i64 y.v.c)∧W.cell? ⟨sb,so+k*7+4,none⟩=some (.int .i64 y.v.h)∧W.cell? ⟨sb,so+k*7+5,none⟩=some (.int .i64 y.v.b)∧W.cell? ⟨sb,so+k*7+6,none⟩=some (.int .i64 y.v.p)))) (by kernel_rfl) (⟨by have:=zd (za kNe vv); rw [HSA.out] at this; exact this,zbo HS.out vv HY.out⟩) (fun hHeld => ?_);refine kK 0 q150 ?_;refine kK 1 q151 ?_;refine kK 2 q152 ?_;refine kK 3 q153 ?_;refine kK 4 q154 ?_;refine kK 5 q155 ?_;refine kK 6 q156 ?_;refine kK 7 q157 ?_;refine kK 8 q158 ?_;refine kK 9 q159 ?_;refine kR 10 q160 (fun K hK => ?_);go_simp;refine (zg y.l 0 ((N.ln:Int) - 1) _).mono ?_;rintro r wz ⟨rfl,ew⟩;obtain rfl:=ew.symm;rw [h1];(go_wp2_with fail);refine hK.out _ _ (⟨by have:=zd (za kNe vv); rw [HSA.out] at this; exact this,zbo HS.out vv HY.out⟩) (fun hHeld => ?_);clear hK K;(try simp only [Act.put,lA,lB,lC]);refine kK 11 q161 ?_;refine kK 12 q162 ?_;refine kK 13 q163 ?_;refine kK 14 q164 ?_;refine kK 15 q165 ?_;refine kK 16 q166 ?_;refine kK 17 q167 ?_;refine kK 18 q168 ?_;refine kR 19 q169 (fun K hK => ?_);go_simp;refine (zay y.v.r y.v.c y.v.h y.v.b y.v.p _).mono ?_;rintro r wz ⟨rfl,hbz⟩;rw [h2];have vv:=zc vv hbz;(go_wp2_with fail);refine hK.out _ _ (⟨by have:=zd (za kNe vv); rw [HSA.out] at this; exact this,zbo HS.out vv HY.out⟩) (fun hHeld => ?_);clear hK K;(try simp only [Act.put,lA,lB,lC]);refine kK 20 q170 ?_;refine kK 21 q171 ?_;refine wpAnyH_done (by kernel_rfl) ?_ _;have HB:=hide (zc hb vv);clear hHeld vv kNe;go_wp2;go_ret;exact ⟨false,rfl,HNO.out,HB.out⟩
       ·have HYES:=hide (zbF HY.out HSS.out (P:=SayOk N.ls) ⟨by rw [hls]; exact h1,h2⟩);(go_wp2_with fail);refine wp_region_held_drew (S:=(fun W=>(W.cell? ⟨w.heap.size,0,none⟩=some (.slice N.ba N.bn N.bc)∧W.cell? ⟨w.heap.size,1,none⟩=some (.slice N.la N.ln N.lc)∧W.cell? ⟨w.heap.size,2,none⟩=some (.slice (some ⟨sb,so,none⟩) N.sn N.sc))∧(W.cell? ⟨sb,so+k*7,none⟩=some (.int .i64 y.l)∧W.cell? ⟨sb,so+k*7+1,none⟩=some (.bool y.back)∧W.cell? ⟨sb,so+k*7+2,none⟩=some (.int .i64 y.v.r)∧W.cell? ⟨sb,so+k*7+3,none⟩=some (.int .i64 y.v.c)∧W.cell? ⟨sb,so+k*7+4,none⟩=some (.int .i64 y.v.h)∧W.cell? ⟨sb,so+k*7+5,none⟩=some (.int .i64 y.v.b)∧W.cell? ⟨sb,so+k*7+6,none⟩=some (.int .i64 y.v.p)))) (by kernel_rfl) (⟨by have:=zd (za kNe vv); rw [HSA.out] at this; exact this,zbo HS.out vv HY.out⟩) (fun hHeld => ?_);refine kK 0 q150 ?_;refine kK 1 q151 ?_;refine kK 2 q152 ?_;refine kK 3 q153 ?_;refine kK 4 q154 ?_;refine kK 5 q155 ?_;refine kK 6 q156 ?_;refine kK 7 q157 ?_;refine kK 8 q158 ?_;refine kK 9 q159 ?_;refine kR 10 q160 (fun K hK => ?_);go_simp;refine (zg y.l 0 ((N.ln:Int) - 1) _).mono ?_;rintro r wz ⟨rfl,ew⟩;obtain rfl:=ew.symm;rw [h1];(go_wp2_with fail);refine hK.out _ _ (⟨by have:=zd (za kNe vv); rw [HSA.out] at this; exact this,zbo HS.out vv HY.out⟩) (fun hHeld => ?_);clear hK K;(try simp only [Act.put,lA,lB,lC]);refine kK 11 q161 ?_;refine kK 12 q162 ?_;refine kK 13 q163 ?_;refine kK 14 q164 ?_;refine kK 15 q165 ?_;refine kK 16 q166 ?_;refine kK 17 q167 ?_;refine kK 18 q168 ?_;refine kR 19 q169 (fun K hK => ?_);go_simp;refine (zay y.v.r y.v.c y.v.h y.v.b y.v.p _).mono ?_;rintro r wz ⟨rfl,hbz⟩;rw [h2];have vv:=zc vv hbz;(go_wp2_with fail);refine hK.out _ _ (⟨by have:=zd (za kNe vv); rw [HSA.out] at this; exact this,zbo HS.out vv HY.out⟩) (fun hHeld => ?_);clear hK K;(try simp only [Act.put,lA,lB,lC]);refine kK 20 q170 ?_;refine kK 21 q171 ?_;refine wpAnyH_done (by kernel_rfl) ?_ _;have HB:=hide (zc hb vv);have HK:=hide (za kNe vv);clear hHeld vv kNe;go_wp2
        go_roundw
        case rel=>exact ⟨k+1,by omega,by go_num,HYES.out,HK.out,HB.out⟩
        case measure=>simp [intOf]; omega
     ·have hkn:k=N.sn:=by omega
      rw [List.take_of_length_le (by have:=hssz.out; omega)] at hss;have HP:Hid (NetOk N.brs N.ls N.ss):=hide (⟨HBR.out.1,⟨by have:=hlsz.out; omega,HLK.out⟩,HBR.out.2,by have:=hssz.out; omega,hss⟩);clear hss;go_wp2;go_ret;exact ⟨true,rfl,zdJ HP.out,hb⟩

theorem PtAt.later {w w':World} {v:Option Addr} {o:Option PT} (h:PtAt w v o) (hb:Below w.heap.size w w'):PtAt w' v o:=by
 cases o with
 | none=>exact h
 | some y =>
  obtain ⟨g,j,e,c⟩:=h;exact ⟨g,j,e,(hb.cell (zl c)).trans c⟩

theorem za5 (N:NV) (k:Int) (w:World) (h:zax w N) :
  Calls Tryz.prog 19 #[.agg #[.slice N.ba N.bn N.bc,.slice N.la N.ln N.lc,.slice N.sa N.sn N.sc],.int .i64 k] w fun e w'=>e=.returned (.bool (zak N.brs N.ls k))∧Below w.heap.size w w':=by
 have hle:=Nat.le_trans h.l.le h.l.top;unfold maxLen at hle;have hsz:=h.l.size;generalize hG:zak N.brs N.ls k=U;have HG:=hide hG;clear hG;generalize hw1:w.alloc (Obj.cells #[.slice N.ba N.bn N.bc,.slice N.la N.ln N.lc,.slice N.sa N.sn N.sc] 31)=w1;have b01:=zb hw1;have k1:=zk hw1;obtain ⟨x0,x1,x2⟩:=zd k1;cases hA:(decide (0≤k) && decide (k≤(N.ln:Int) - 1))
 ·have HF:Hid (U=false):=hide (by
   rw [← HG.out];unfold zak
   split
   ·rw [List.getElem?_eq_none (by simp at hA; omega)]
   ·rfl)
  go_enter Tryz.func19,Tryz.ntmps19;(go_wp2_with fail);refine (zD k 0 ((N.ln:Int) - 1) _).mono ?_;rintro e w2 ⟨rfl,ew⟩;obtain rfl:=ew.symm;rw [hA];clear hA;go_wp2;go_ret;exact ⟨by rw [HF.out]; rfl,b01⟩
 ·obtain ⟨j,rfl⟩:∃j:Nat,k=(j:Int):=⟨k.toNat,by simp at hA; omega⟩;have hj:j < N.ln:=by simp at hA; omega
  obtain ⟨x,lb,off,hx,hla,a0,a1,a2,a3⟩:=zaF (h.l.below b01) j hj;have HG:Hid ((upAt N.brs x.a x.p && upAt N.brs x.b x.q)=U):=hide (by rw [← HG.out]; unfold zak; rw [if_pos (by omega),Int.toNat_natCast,hx]);have i1:(0:Int)≤(j:Int):=by omega
  have i2:(j:Int) < (N.ln:Int):=by omega
  rw [hla] at x1;clear hx hla;go_enter Tryz.func19,Tryz.ntmps19;(go_wp2_with fail);refine (zD (j:Int) 0 ((N.ln:Int) - 1) _).mono ?_;rintro e w2 ⟨rfl,ew⟩;obtain rfl:=ew.symm;rw [hA];clear hA;(go_wp2_with fail);refine (zb2 x _).mono ?_;rintro e we ⟨rfl,hbe⟩;have kNe:=za k1 hbe;have b0e:=zc b01 hbe;clear x0 x1 x2 a0 a1 a2 a3 k1 hbe;generalize hwq:we.alloc (Obj.cells #[.int .i64 x.a,.int .i64 x.p,.int .i64 x.b,.int .i64 x.q] 86)=wq;have bq:=zb hwq;have kE:=zk hwq;have kNe:=za kNe bq;have bq:=zc b0e bq;clear b0e;have vv:Below wq.heap.size wq wq.drew:=zp (Below.refl _ _);(go_wp2_with fail);refine wp_region_held_drew (S:=(fun W=>(W.cell? ⟨w.heap.size,0,none⟩=some (.slice N.ba N.bn N.bc)∧W.cell? ⟨w.heap.size,1,none⟩=some (.slice N.la N.ln N.lc)∧W.cell? ⟨w.heap.size,2,none⟩=some (.slice N.sa N.sn N.sc))∧(W.cell? ⟨we.heap.size,0,none⟩=some (.int .i64 x.a)∧W.cell? ⟨we.heap.size,1,none⟩=some (.int .i64 x.p)∧W.cell? ⟨we.heap.size,2,none⟩=some (.int .i64 x.b)∧W.cell? ⟨we.heap.size,3,none⟩=some (.int .i64 x.q)))) (by kernel_rfl) (⟨zd (za kNe vv),zK (za kE vv)⟩) (fun hHeld => ?_);refine kK 0 ⟨some 21,.load 31 (.tmp 2),31,"l13_net.go:74",#[],none⟩ ?_;refine kK 1 ⟨some 22,.indexAddr 86 (.tmp 5) (.const (.int .i64 0)),0,"l13_net.go:74",#[],none⟩ ?_;refine kK 2 ⟨some 23,.load 85 (.tmp 22),85,"l13_net.go:74",#[⟨1,.data⟩],none⟩ ?_;refine kK 4 ⟨some 25,.load 31 (.tmp 2),31,"l13_net.go:74",#[],none⟩ ?_;refine kK 5 ⟨some 26,.indexAddr 86 (.tmp 5) (.const (.int .i64 1)),0,"l13_net.go:74",#[],none⟩ ?_;refine kK 6 ⟨some 27,.load 85 (.tmp 26),85,"l13_net.go:74",#[⟨5,.data⟩],none⟩ ?_;refine kR 3 ⟨some 24,.call ⟨.value (.func 61),#[.tmp 21,.tmp 23],#[31,85]⟩,95,"l13_net.go:74",#[⟨0,.data⟩,⟨2,.data⟩],none⟩ (fun K hK => ?_);go_simp;refine (zcL N x.a x.p _ (h.below (zc bq vv))).mono ?_;rintro r wz ⟨v1,rfl,v1P,hbz⟩;have v1P:=PtAt.later v1P hbz;(try have v2P:=PtAt.later v2P hbz);have vv:=zc vv hbz;(go_wp2_with fail);refine hK.out _ _ (⟨zd (za kNe vv),zK (za kE vv)⟩) (fun hHeld => ?_);clear hK K;(try simp only [Act.put,lA,lB,lC]);refine kR 7 ⟨some 28,.call ⟨.value (.func 61),#[.tmp 25,.tmp 27],#[31,85]⟩,95,"l13_net.go:74",#[⟨4,.data⟩,⟨6,.data⟩,⟨3,.chain⟩],none⟩ (fun K hK => ?_);go_simp;refine (zcL N x.b x.q _ (h.below (zc bq vv))).mono ?_;rintro r wz ⟨v2,rfl,v2P,hbz⟩;have v2P:=PtAt.later v2P hbz;(try have v1P:=PtAt.later v1P hbz);have vv:=zc vv hbz;(go_wp2_with fail);refine hK.out _ _ (⟨zd (za kNe vv),zK (za kE vv)⟩) (fun hHeld => ?_);clear hK K;(try simp only [Act.put,lA,lB,lC]);refine kK 8 ⟨some 6,.assign (.tmp 24),95,"l13_net.go:74",#[⟨3,.data⟩,⟨7,.chain⟩,⟨0,.phase⟩,⟨1,.phase⟩,⟨2,.phase⟩,⟨3,.phase⟩,{ on:=4,ground:=Ground.textOnly Departure.lateStores },{ on:=5,ground:=Ground.textOnly Departure.lateStores },{ on:=6,ground:=Ground.textOnly Departure.lateStores },{ on:=7,ground:=Ground.textOnly Departure.lateStoresUnsure }],none⟩ ?_;refine kK 9 ⟨some 7,.assign (.tmp 28),95,"l13_net.go:74",#[⟨7,.data⟩,⟨8,.chain⟩,⟨0,.phase⟩,⟨1,.phase⟩,⟨2,.phase⟩,⟨3,.phase⟩,⟨4,.phase⟩,⟨5,.phase⟩,⟨6,.phase⟩,⟨7,.phase⟩,⟨8,.phase⟩],none⟩ ?_;refine wpAnyH_done (by kernel_rfl) ?_ _;have HB:=hide (zc bq vv);have bz:=zc bq vv;clear hHeld kNe kE vv;cases hP:zaf N.brs x.a x.p with
  | none =>
   rw [hP] at v1P;have e1:v1=none:=v1P;subst e1;have HF:Hid (U=false):=hide (by rw [← HG.out]; unfold upAt; rw [hP]; rfl);clear bz v2P v1P;go_wp2;go_ret;exact ⟨by rw [HF.out]; rfl,HB.out⟩
  | some y1 =>
   rw [hP] at v1P;obtain ⟨p1,o1,rfl,q1⟩:=v1P;cases hQ:zaf N.brs x.b x.q with
   | none =>
    rw [hQ] at v2P;have e2:v2=none:=v2P;subst e2;have HF:Hid (U=false):=hide (by rw [← HG.out]; unfold upAt; rw [hQ]; simp);clear bz v2P q1;go_wp2;go_ret;exact ⟨by rw [HF.out]; rfl,HB.out⟩
   | some y2 =>
    rw [hQ] at v2P;obtain ⟨p2,o2,rfl,q2⟩:=v2P;have HF:Hid (U=(y1.up && y2.up)):=hide (by rw [← HG.out]; unfold upAt; rw [hP,hQ]);clear bz hP hQ;cases h1:y1.up
    ·rw [h1] at q1;have HF:Hid (U=false):=hide (by rw [HF.out,h1]; rfl);go_wp2;go_ret;exact ⟨by rw [HF.out]; rfl,HB.out⟩
    ·rw [h1] at q1;have HF:Hid (U=y2.up):=hide (by rw [HF.out,h1]; rfl);go_wp2;go_ret;exact ⟨by rw [HF.out]; rfl,HB.out⟩

end Go.Proofs.YtkoekkjfcaiagaaGreat
