/-
  Packed: NetOkT NetUpI NetOkJ BrInner NetRows.
-/
import Derived.Test.YtkaefmfopejbaaaGreatPVK09
import Derived.Test.YtkaefmfopejbaaaGreatPVK12
import Derived.Test.YtkaefmfopejbaaaGreatPVK13
import Derived.Laws.CopyRow
import Derived.Lib.AppendZeros
import Derived.Lib.Overlaps
import Derived.Lib.MinMax
namespace Go.Proofs.YtkaefmfopejbaaaGreat
set_option maxRecDepth 100000
set_option maxHeartbeats 16000000
open Go.RowKit

abbrev q136:Oper:=⟨some 33,.fieldAddr 66 (.tmp 4) 0,0,"l13_net.go:49",#[],none⟩
abbrev q137:Oper:=⟨some 34,.load 3 (.tmp 33),3,"l13_net.go:49",#[⟨0,.data⟩],none⟩
abbrev q138:Oper:=⟨some 35,.fieldAddr 66 (.tmp 4) 2,0,"l13_net.go:49",#[],none⟩
abbrev q139:Oper:=⟨some 36,.load 3 (.tmp 35),3,"l13_net.go:49",#[⟨2,.data⟩],none⟩
abbrev q140:Oper:=⟨some 37,.binOp .eql 3 (.tmp 34) (.tmp 36) 3,4,"l13_net.go:49",#[⟨1,.data⟩,⟨3,.data⟩],none⟩
abbrev q141:Oper:=⟨some 38,.move (.tmp 37),4,"l13_net.go:49",#[⟨4,.data⟩],none⟩
abbrev q142:Oper:=⟨some 39,.load 28 (.tmp 1),28,"l13_net.go:49",#[⟨5,.guard⟩],some (5,false)⟩
abbrev q143:Oper:=⟨some 40,.fieldAddr 66 (.tmp 4) 0,0,"l13_net.go:49",#[⟨5,.guard⟩],some (5,false)⟩
abbrev q144:Oper:=⟨some 41,.load 3 (.tmp 40),3,"l13_net.go:49",#[⟨7,.data⟩,⟨5,.guard⟩],some (5,false)⟩
abbrev q145:Oper:=⟨some 42,.fieldAddr 66 (.tmp 4) 1,0,"l13_net.go:49",#[⟨5,.guard⟩],some (5,false)⟩
abbrev q146:Oper:=⟨some 43,.load 3 (.tmp 42),3,"l13_net.go:49",#[⟨9,.data⟩,⟨5,.guard⟩],some (5,false)⟩
abbrev q147:Oper:=⟨some 44,.call ⟨.value (.func 99),#[.tmp 39,.tmp 41,.tmp 43],#[28,3,3]⟩,4,"l13_net.go:49",#[⟨6,.data⟩,⟨8,.data⟩,⟨10,.data⟩,⟨5,.chain⟩,⟨5,.guard⟩],some (5,false)⟩
abbrev q148:Oper:=⟨some 45,.unOp .not 4 (.tmp 44),4,"l13_net.go:49",#[⟨11,.data⟩,⟨5,.guard⟩],some (5,false)⟩
abbrev q149:Oper:=⟨some 46,.pick (.tmp 38) (.const (.bool true)) (.tmp 45),4,"l13_net.go:49",#[⟨5,.data⟩,⟨12,.data⟩],none⟩
abbrev q150:Oper:=⟨some 47,.move (.tmp 46),4,"l13_net.go:49",#[⟨13,.data⟩,⟨11,.chain⟩],none⟩
abbrev q151:Oper:=⟨some 48,.load 28 (.tmp 1),28,"l13_net.go:49",#[⟨14,.guard⟩],some (14,false)⟩
abbrev q152:Oper:=⟨some 49,.fieldAddr 66 (.tmp 4) 2,0,"l13_net.go:49",#[⟨14,.guard⟩],some (14,false)⟩
abbrev q153:Oper:=⟨some 50,.load 3 (.tmp 49),3,"l13_net.go:49",#[⟨16,.data⟩,⟨14,.guard⟩],some (14,false)⟩
abbrev q154:Oper:=⟨some 51,.fieldAddr 66 (.tmp 4) 3,0,"l13_net.go:49",#[⟨14,.guard⟩],some (14,false)⟩
abbrev q155:Oper:=⟨some 52,.load 3 (.tmp 51),3,"l13_net.go:49",#[⟨18,.data⟩,⟨14,.guard⟩],some (14,false)⟩
abbrev q156:Oper:=⟨some 53,.call ⟨.value (.func 99),#[.tmp 48,.tmp 50,.tmp 52],#[28,3,3]⟩,4,"l13_net.go:49",#[⟨15,.data⟩,⟨17,.data⟩,⟨19,.data⟩,⟨14,.chain⟩,⟨14,.guard⟩],some (14,false)⟩
abbrev q157:Oper:=⟨some 54,.unOp .not 4 (.tmp 53),4,"l13_net.go:49",#[⟨20,.data⟩,⟨14,.guard⟩],some (14,false)⟩
abbrev q158:Oper:=⟨some 55,.pick (.tmp 47) (.const (.bool true)) (.tmp 54),4,"l13_net.go:49",#[⟨14,.data⟩,⟨21,.data⟩],none⟩
abbrev q159:Oper:=⟨some 56,.move (.tmp 55),4,"l13_net.go:49",#[⟨22,.data⟩,⟨20,.chain⟩],none⟩
abbrev q160:Oper:=⟨some 57,.fieldAddr 28 (.tmp 1) 0,0,"l13_net.go:49",#[⟨23,.guard⟩],some (23,false)⟩
abbrev q161:Oper:=⟨some 58,.load 24 (.tmp 57),24,"l13_net.go:49",#[⟨24,.data⟩,⟨23,.guard⟩],some (23,false)⟩
abbrev q162:Oper:=⟨some 59,.fieldAddr 66 (.tmp 4) 0,0,"l13_net.go:49",#[⟨23,.guard⟩],some (23,false)⟩
abbrev q163:Oper:=⟨some 60,.load 3 (.tmp 59),3,"l13_net.go:49",#[⟨26,.data⟩,⟨23,.guard⟩],some (23,false)⟩
abbrev q164:Oper:=⟨some 61,.indexAddr 24 (.tmp 58) (.tmp 60),0,"l13_net.go:49",#[⟨25,.data⟩,⟨27,.data⟩,⟨23,.guard⟩],some (23,false)⟩
abbrev q165:Oper:=⟨some 62,.fieldAddr 44 (.tmp 61) 2,0,"l13_net.go:49",#[⟨28,.data⟩,⟨23,.guard⟩],some (23,false)⟩
abbrev q166:Oper:=⟨some 63,.load 38 (.tmp 62),38,"l13_net.go:49",#[⟨29,.data⟩,⟨23,.guard⟩],some (23,false)⟩
abbrev q167:Oper:=⟨some 64,.fieldAddr 66 (.tmp 4) 1,0,"l13_net.go:49",#[⟨23,.guard⟩],some (23,false)⟩
abbrev q168:Oper:=⟨some 65,.load 3 (.tmp 64),3,"l13_net.go:49",#[⟨31,.data⟩,⟨23,.guard⟩],some (23,false)⟩
abbrev q169:Oper:=⟨some 66,.indexAddr 38 (.tmp 63) (.tmp 65),0,"l13_net.go:49",#[⟨30,.data⟩,⟨32,.data⟩,⟨23,.guard⟩],some (23,false)⟩
abbrev q170:Oper:=⟨some 67,.fieldAddr 53 (.tmp 66) 0,0,"l13_net.go:49",#[⟨33,.data⟩,⟨23,.guard⟩],some (23,false)⟩
abbrev q171:Oper:=⟨some 68,.load 4 (.tmp 67),4,"l13_net.go:49",#[⟨34,.data⟩,⟨23,.guard⟩],some (23,false)⟩
abbrev q172:Oper:=⟨some 69,.fieldAddr 28 (.tmp 1) 0,0,"l13_net.go:49",#[⟨23,.guard⟩],some (23,false)⟩
abbrev q173:Oper:=⟨some 70,.load 24 (.tmp 69),24,"l13_net.go:49",#[⟨36,.data⟩,⟨23,.guard⟩],some (23,false)⟩
abbrev q174:Oper:=⟨some 71,.fieldAddr 66 (.tmp 4) 2,0,"l13_net.go:49",#[⟨23,.guard⟩],some (23,false)⟩
abbrev q175:Oper:=⟨some 72,.load 3 (.tmp 71),3,"l13_net.go:49",#[⟨38,.data⟩,⟨23,.guard⟩],some (23,false)⟩
abbrev q176:Oper:=⟨some 73,.indexAddr 24 (.tmp 70) (.tmp 72),0,"l13_net.go:49",#[⟨37,.data⟩,⟨39,.data⟩,⟨23,.guard⟩],some (23,false)⟩
abbrev q177:Oper:=⟨some 74,.fieldAddr 44 (.tmp 73) 2,0,"l13_net.go:49",#[⟨40,.data⟩,⟨23,.guard⟩],some (23,false)⟩
abbrev q178:Oper:=⟨some 75,.load 38 (.tmp 74),38,"l13_net.go:49",#[⟨41,.data⟩,⟨23,.guard⟩],some (23,false)⟩
abbrev q179:Oper:=⟨some 76,.fieldAddr 66 (.tmp 4) 3,0,"l13_net.go:49",#[⟨23,.guard⟩],some (23,false)⟩
abbrev q180:Oper:=⟨some 77,.load 3 (.tmp 76),3,"l13_net.go:49",#[⟨43,.data⟩,⟨23,.guard⟩],some (23,false)⟩
abbrev q181:Oper:=⟨some 78,.indexAddr 38 (.tmp 75) (.tmp 77),0,"l13_net.go:49",#[⟨42,.data⟩,⟨44,.data⟩,⟨23,.guard⟩],some (23,false)⟩
abbrev q182:Oper:=⟨some 79,.fieldAddr 53 (.tmp 78) 0,0,"l13_net.go:49",#[⟨45,.data⟩,⟨23,.guard⟩],some (23,false)⟩
abbrev q183:Oper:=⟨some 80,.load 4 (.tmp 79),4,"l13_net.go:49",#[⟨46,.data⟩,⟨23,.guard⟩],some (23,false)⟩
abbrev q184:Oper:=⟨some 81,.binOp .neq 4 (.tmp 68) (.tmp 80) 4,4,"l13_net.go:49",#[⟨35,.data⟩,⟨47,.data⟩,⟨23,.guard⟩],some (23,false)⟩
abbrev q185:Oper:=⟨some 82,.pick (.tmp 56) (.const (.bool true)) (.tmp 81),4,"l13_net.go:49",#[⟨23,.data⟩,⟨48,.data⟩],none⟩
abbrev q186:Oper:=⟨some 90,.fieldAddr 28 (.tmp 1) 2,0,"l13_net.go:54",#[],none⟩
abbrev q187:Oper:=⟨some 91,.load 26 (.tmp 90),26,"l13_net.go:54",#[⟨0,.data⟩],none⟩
abbrev q188:Oper:=⟨some 92,.move (.tmp 5),3,"l13_net.go:54",#[],none⟩
abbrev q189:Oper:=⟨some 93,.indexAddr 26 (.tmp 91) (.tmp 92),0,"l13_net.go:54",#[⟨1,.data⟩,⟨2,.data⟩],none⟩
abbrev q190:Oper:=⟨some 94,.fieldAddr 99 (.tmp 93) 0,0,"l13_net.go:54",#[⟨3,.data⟩],none⟩
abbrev q191:Oper:=⟨some 95,.load 3 (.tmp 94),3,"l13_net.go:54",#[⟨4,.data⟩],none⟩
abbrev q192:Oper:=⟨some 96,.fieldAddr 28 (.tmp 1) 1,0,"l13_net.go:54",#[],none⟩
abbrev q193:Oper:=⟨some 97,.load 25 (.tmp 96),25,"l13_net.go:54",#[⟨6,.data⟩],none⟩
abbrev q194:Oper:=⟨some 98,.call ⟨.builtin .len,#[.tmp 97],#[25]⟩,3,"l13_net.go:54",#[⟨7,.data⟩],none⟩
abbrev q195:Oper:=⟨some 99,.binOp .sub 3 (.tmp 98) (.const (.int .i64 1)) 3,3,"l13_net.go:54",#[⟨8,.data⟩],none⟩
abbrev q196:Oper:=⟨some 100,.call ⟨.value (.func 54),#[.tmp 95,.const (.int .i64 0),.tmp 99],#[3,3,3]⟩,4,"l13_net.go:54",#[⟨5,.data⟩,⟨9,.data⟩],none⟩
abbrev q197:Oper:=⟨some 101,.unOp .not 4 (.tmp 100),4,"l13_net.go:54",#[⟨10,.data⟩],none⟩
abbrev q198:Oper:=⟨some 102,.move (.tmp 101),4,"l13_net.go:54",#[⟨11,.data⟩,⟨10,.chain⟩],none⟩
abbrev q199:Oper:=⟨some 103,.fieldAddr 28 (.tmp 1) 2,0,"l13_net.go:54",#[⟨12,.guard⟩],some (12,false)⟩
abbrev q200:Oper:=⟨some 104,.load 26 (.tmp 103),26,"l13_net.go:54",#[⟨13,.data⟩,⟨12,.guard⟩],some (12,false)⟩
abbrev q201:Oper:=⟨some 105,.move (.tmp 5),3,"l13_net.go:54",#[⟨12,.guard⟩],some (12,false)⟩
abbrev q202:Oper:=⟨some 106,.indexAddr 26 (.tmp 104) (.tmp 105),0,"l13_net.go:54",#[⟨14,.data⟩,⟨15,.data⟩,⟨12,.guard⟩],some (12,false)⟩
abbrev q203:Oper:=⟨some 107,.fieldAddr 99 (.tmp 106) 2,0,"l13_net.go:54",#[⟨16,.data⟩,⟨12,.guard⟩],some (12,false)⟩
abbrev q204:Oper:=⟨some 108,.load 51 (.tmp 107),51,"l13_net.go:54",#[⟨17,.data⟩,⟨12,.guard⟩],some (12,false)⟩
abbrev q205:Oper:=⟨some 109,.call ⟨.value (.func 100),#[.tmp 108],#[51]⟩,4,"l13_net.go:54",#[⟨18,.data⟩,⟨12,.chain⟩,⟨12,.guard⟩],some (12,false)⟩
abbrev q206:Oper:=⟨some 110,.unOp .not 4 (.tmp 109),4,"l13_net.go:54",#[⟨19,.data⟩,⟨12,.guard⟩],some (12,false)⟩
abbrev q207:Oper:=⟨some 111,.pick (.tmp 102) (.const (.bool true)) (.tmp 110),4,"l13_net.go:54",#[⟨12,.data⟩,⟨20,.data⟩],none⟩

theorem zgb {N:NV} {w:World} (h:zac w N) {b p:Int} {u:PT} (hp:zM N.brs b p=some u):∃(k j bb off pb po n c:Nat),b=(k:Int)∧p=(j:Int)∧k < N.bn∧j < n∧N.ba=some ⟨bb,off,none⟩∧w.cell? ⟨bb,off+k*11+2,none⟩=some (.slice (some ⟨pb,po,none⟩) n c)∧w.cell? ⟨pb,po+j*8,none⟩=some (.bool u.up):=by
 unfold zM at hp
 split at hp
 ·rename_i hc
  obtain ⟨k,rfl⟩:∃k:Nat,b=(k:Int):=⟨b.toNat,by omega⟩;obtain ⟨j,rfl⟩:∃j:Nat,p=(j:Int):=⟨p.toNat,by omega⟩;rw [Int.toNat_natCast,Int.toNat_natCast] at hp;cases hB:N.brs[k]? with
  | none=>rw [hB] at hp; cases hp
  | some B =>
   rw [hB] at hp;have hp:B.ports[j]? = some u:=hp;obtain ⟨x,hx,rfl⟩:=bs_at hB;have hk:k < N.bn:=by have:=(List.getElem?_eq_some_iff.1 hx).1; have:=h.b.size; omega
   obtain ⟨x',bb,off,hx',hba,-,-,c2,-⟩:=br_at h.b k hk;rw [hx] at hx';cases hx';have hr:=h.item x (List.mem_of_getElem? hx);have hj:j < x.n:=by have:=(List.getElem?_eq_some_iff.1 hp).1; have:=hr.ports.size; omega
   obtain ⟨y,pb,po,hy,hpa,d0,-⟩:=pt_at hr.ports j hj;rw [hp] at hy;cases hy;rw [hpa] at c2;exact ⟨k,j,bb,off,pb,po,x.n,x.c,rfl,rfl,hk,hj,hba,c2,d0⟩
 ·cases hp

def Says (P:Prop) (w:World) (e:Ending) (w':World):Prop:=∃q:Bool,e=.returned (.bool q)∧(q=true↔P)∧Below w.heap.size w w'

theorem zg2 {bs:List BR} {ls:List LK} {b p:Int} (h:endOk bs ls b p=true):(∃u,zM bs b p=some u)∧usedL ls b p=1:=by
 unfold endOk at h;simp only [Bool.and_eq_true,decide_eq_true_eq] at h;exact ⟨Option.isSome_iff_exists.1 h.1,h.2⟩
theorem ziy {bs:List BR} {ls:List LK} {b p:Int} (h:endOk bs ls b p=false):¬((∃u,zM bs b p=some u)∧usedL ls b p=1):=by
 rintro ⟨⟨u,hu⟩,h2⟩;unfold endOk at h;rw [hu,h2] at h
 simp at h

theorem zcD (N:NV) (w:World) (h:zac w N) (hsm:N.ln≤16777216) :
  Calls Tryz.prog 71 #[.agg #[.slice N.ba N.bn N.bc,.slice N.la N.ln N.lc,.slice N.sa N.sn N.sc]] w fun e w'=>Says (NetOk N.brs N.ls N.ss) w e w':=by
 have hle:=Nat.le_trans h.s.le h.s.top;unfold maxLen at hle;have hlsz:=hide h.l.size;have hssz:=hide h.s.size;generalize hw1:w.alloc (Obj.cells #[.slice N.ba N.bn N.bc,.slice N.la N.ln N.lc,.slice N.sa N.sn N.sc] 28)=w1;have b01:=zb hw1;have k1:=zk hw1;obtain ⟨x0,x1,x2⟩:=zd k1;go_enter Tryz.func71,Tryz.ntmps71;go_wp2_with fail
 refine (zdA N _ (h.below b01) hsm).mono ?_;rintro e w2 ⟨q,rfl,hq,hb2⟩;have kNe:=za k1 hb2;have b02:=zc b01 hb2;clear x0 x1 x2 k1 b01 hb2 hw1;obtain ⟨x0,x1,x2⟩:=zd kNe;cases q
 ·have HNO:Hid ((false=true)↔NetOk N.brs N.ls N.ss):=hide (zbK fun hp=>by have:=hq.2 ⟨hp.1,hp.2.2.1⟩; cases this);go_wp2;go_ret;exact ⟨false,rfl,HNO.out,b02⟩
 ·have HBR:=hide (hq.1 rfl);clear hq;by_cases l9:(N.ln:Int) > 9
  ·have HNO:Hid ((false=true)↔NetOk N.brs N.ls N.ss):=hide (zbK fun hp=>by have:=hp.2.1.1; have:=hlsz.out; omega);go_wp2;go_ret;exact ⟨false,rfl,HNO.out,b02⟩
  by_cases s40:(N.sn:Int) > 40
  ·have HNO:Hid ((false=true)↔NetOk N.brs N.ls N.ss):=hide (zbK fun hp=>by have:=hp.2.2.2.1; have:=hssz.out; omega);go_wp2;go_ret;exact ⟨false,rfl,HNO.out,b02⟩
  (go_wp2_with fail);clear x0 x1 x2
  go_loopw [3] (fun i wr=>∃k:Nat,k≤N.ln∧i=.int .i64 k∧(∀y∈N.ls.take k,zeH N.brs N.ls y)∧wr.heap[w.heap.size]? = some (.cells #[.slice N.ba N.bn N.bc,.slice N.la N.ln N.lc,.slice N.sa N.sn N.sc] 28)∧Below w.heap.size w wr) (fun i _=>N.ln - (intOf i).toNat)
  case atStart=>exact ⟨0,Nat.zero_le _,rfl,by intro y hy; simp at hy,kNe,b02⟩
  case round =>
   obtain ⟨k,hk,rfl,hlk,hbox,hb⟩:=hrel;clear kNe b02;obtain ⟨x0,x1,x2⟩:=zd hbox;by_cases hlt:k < N.ln
   ·obtain ⟨x,lb,lo,hx,hla,a0,a1,a2,a3⟩:=zak (h.l.below hb) k hlt;rw [hla] at x1;clear hla;have i1:(0:Int)≤(k:Int):=by omega
    have i2:(k:Int) < (N.ln:Int):=by omega
    have hmem:=List.mem_of_getElem? hx;have HX:=hide hx;have HLK:=hide hlk;generalize hwa:wr.alloc (Obj.cells #[.int .i64 x.a,.int .i64 x.p,.int .i64 x.b,.int .i64 x.q] 66)=wa;have ba:=zb hwa;have kL:=zk hwa;have kNe:=za hbox ba;have ba:=zc hb ba;have vv:Below wa.heap.size wa wa.drew:=zG (Below.refl _ _);clear hx hlk hb hbox;by_cases hab:x.a=x.b
    ·have HNO:Hid ((false=true)↔NetOk N.brs N.ls N.ss):=hide (zbK fun hp=>(hp.2.1.2 x hmem).1.1 hab);have HAB:=hide hab;clear hab;(go_wp2_with fail);have hab:=HAB.out;refine wp_region_held_drew (S:=(fun W=>(zcc W w.heap.size 0 (.slice N.ba N.bn N.bc)∧zcc W w.heap.size 1 (.slice N.la N.ln N.lc)∧zcc W w.heap.size 2 (.slice N.sa N.sn N.sc))∧(zcc W wr.heap.size 0 (.int .i64 x.a)∧zcc W wr.heap.size 1 (.int .i64 x.p)∧zcc W wr.heap.size 2 (.int .i64 x.b)∧zcc W wr.heap.size 3 (.int .i64 x.q)))) (by kernel_rfl) (⟨zd (za kNe vv),zr (za kL vv)⟩) (fun hHeld => ?_);refine kK 0 q136 ?_;refine kK 1 q137 ?_;refine kK 2 q138 ?_;refine kK 3 q139 ?_;refine kV 4 q140 (.bool true) ?_;refine kK 5 q141 ?_;refine kN 6 q142 ?_;refine kN 7 q143 ?_;refine kN 8 q144 ?_;refine kN 9 q145 ?_;refine kN 10 q146 ?_;refine kN 11 q147 ?_;refine kN 12 q148 ?_;refine kK 13 q149 ?_;refine kK 14 q150 ?_;refine kN 15 q151 ?_;refine kN 16 q152 ?_;refine kN 17 q153 ?_;refine kN 18 q154 ?_;refine kN 19 q155 ?_;refine kN 20 q156 ?_;refine kN 21 q157 ?_;refine kK 22 q158 ?_;refine kK 23 q159 ?_;refine kN 24 q160 ?_;refine kN 25 q161 ?_;refine kN 26 q162 ?_;refine kN 27 q163 ?_;refine kN 28 q164 ?_;refine kN 29 q165 ?_;refine kN 30 q166 ?_;refine kN 31 q167 ?_;refine kN 32 q168 ?_;refine kN 33 q169 ?_;refine kN 34 q170 ?_;refine kN 35 q171 ?_;refine kN 36 q172 ?_;refine kN 37 q173 ?_;refine kN 38 q174 ?_;refine kN 39 q175 ?_;refine kN 40 q176 ?_;refine kN 41 q177 ?_;refine kN 42 q178 ?_;refine kN 43 q179 ?_;refine kN 44 q180 ?_;refine kN 45 q181 ?_;refine kN 46 q182 ?_;refine kN 47 q183 ?_;refine kN 48 q184 ?_;refine kK 49 q185 ?_;refine wpAnyH_done (by kernel_rfl) ?_ _;have HB:=hide (zc ba vv);clear hHeld vv kNe kL;go_wp2;go_ret;exact ⟨false,rfl,HNO.out,HB.out⟩
    ·cases h1:endOk N.brs N.ls x.a x.p
     ·have HNO:Hid ((false=true)↔NetOk N.brs N.ls N.ss):=hide (zbK fun hp=>by
       have hl:=hp.2.1.2 x hmem;obtain ⟨u,v,hu,-⟩:=hl.1.2;exact ziy h1 ⟨⟨u,hu⟩,hl.2.1⟩)
      (go_wp2_with fail);refine wp_region_held_drew (S:=(fun W=>(zcc W w.heap.size 0 (.slice N.ba N.bn N.bc)∧zcc W w.heap.size 1 (.slice N.la N.ln N.lc)∧zcc W w.heap.size 2 (.slice N.sa N.sn N.sc))∧(zcc W wr.heap.size 0 (.int .i64 x.a)∧zcc W wr.heap.size 1 (.int .i64 x.p)∧zcc W wr.heap.size 2 (.int .i64 x.b)∧zcc W wr.heap.size 3 (.int .i64 x.q)))) (by kernel_rfl) (⟨zd (za kNe vv),zr (za kL vv)⟩) (fun hHeld => ?_);refine kK 0 q136 ?_;refine kK 1 q137 ?_;refine kK 2 q138 ?_;refine kK 3 q139 ?_;refine kV 4 q140 (.bool false) ?_;refine kK 5 q141 ?_;refine kK 6 q142 ?_;refine kK 7 q143 ?_;refine kK 8 q144 ?_;refine kK 9 q145 ?_;refine kK 10 q146 ?_;refine kR 11 q147 (fun K hK => ?_);go_simp;refine (zbb N x.a x.p _ (h.below (zc ba vv)) hsm).mono ?_;rintro r wz ⟨rfl,hbz⟩;rw [h1];have vv:=zc vv hbz;(go_wp2_with fail);refine kO hK (⟨zd (za kNe vv),zr (za kL vv)⟩) fun hHeld => ?_
      clear hK K;refine kK 12 q148 ?_;refine kK 13 q149 ?_;refine kK 14 q150 ?_;refine kN 15 q151 ?_;refine kN 16 q152 ?_;refine kN 17 q153 ?_;refine kN 18 q154 ?_;refine kN 19 q155 ?_;refine kN 20 q156 ?_;refine kN 21 q157 ?_;refine kK 22 q158 ?_;refine kK 23 q159 ?_;refine kN 24 q160 ?_;refine kN 25 q161 ?_;refine kN 26 q162 ?_;refine kN 27 q163 ?_;refine kN 28 q164 ?_;refine kN 29 q165 ?_;refine kN 30 q166 ?_;refine kN 31 q167 ?_;refine kN 32 q168 ?_;refine kN 33 q169 ?_;refine kN 34 q170 ?_;refine kN 35 q171 ?_;refine kN 36 q172 ?_;refine kN 37 q173 ?_;refine kN 38 q174 ?_;refine kN 39 q175 ?_;refine kN 40 q176 ?_;refine kN 41 q177 ?_;refine kN 42 q178 ?_;refine kN 43 q179 ?_;refine kN 44 q180 ?_;refine kN 45 q181 ?_;refine kN 46 q182 ?_;refine kN 47 q183 ?_;refine kN 48 q184 ?_;refine kK 49 q185 ?_;refine wpAnyH_done (by kernel_rfl) ?_ _;have HB:=hide (zc ba vv);clear hHeld vv kNe kL;go_wp2;go_ret;exact ⟨false,rfl,HNO.out,HB.out⟩
     ·cases h2:endOk N.brs N.ls x.b x.q
      ·have HNO:Hid ((false=true)↔NetOk N.brs N.ls N.ss):=hide (zbK fun hp=>by
        have hl:=hp.2.1.2 x hmem;obtain ⟨u,v,-,hv,-⟩:=hl.1.2;exact ziy h2 ⟨⟨v,hv⟩,hl.2.2⟩)
       (go_wp2_with fail);refine wp_region_held_drew (S:=(fun W=>(zcc W w.heap.size 0 (.slice N.ba N.bn N.bc)∧zcc W w.heap.size 1 (.slice N.la N.ln N.lc)∧zcc W w.heap.size 2 (.slice N.sa N.sn N.sc))∧(zcc W wr.heap.size 0 (.int .i64 x.a)∧zcc W wr.heap.size 1 (.int .i64 x.p)∧zcc W wr.heap.size 2 (.int .i64 x.b)∧zcc W wr.heap.size 3 (.int .i64 x.q)))) (by kernel_rfl) (⟨zd (za kNe vv),zr (za kL vv)⟩) (fun hHeld => ?_);refine kK 0 q136 ?_;refine kK 1 q137 ?_;refine kK 2 q138 ?_;refine kK 3 q139 ?_;refine kV 4 q140 (.bool false) ?_;refine kK 5 q141 ?_;refine kK 6 q142 ?_;refine kK 7 q143 ?_;refine kK 8 q144 ?_;refine kK 9 q145 ?_;refine kK 10 q146 ?_;refine kR 11 q147 (fun K hK => ?_);go_simp;refine (zbb N x.a x.p _ (h.below (zc ba vv)) hsm).mono ?_;rintro r wz ⟨rfl,hbz⟩;rw [h1];have vv:=zc vv hbz;(go_wp2_with fail);refine kO hK (⟨zd (za kNe vv),zr (za kL vv)⟩) fun hHeld => ?_
       clear hK K;refine kK 12 q148 ?_;refine kK 13 q149 ?_;refine kK 14 q150 ?_;refine kK 15 q151 ?_;refine kK 16 q152 ?_;refine kK 17 q153 ?_;refine kK 18 q154 ?_;refine kK 19 q155 ?_;refine kR 20 q156 (fun K hK => ?_);go_simp;refine (zbb N x.b x.q _ (h.below (zc ba vv)) hsm).mono ?_;rintro r wz ⟨rfl,hbz⟩;rw [h2];have vv:=zc vv hbz;(go_wp2_with fail);refine kO hK (⟨zd (za kNe vv),zr (za kL vv)⟩) fun hHeld => ?_
       clear hK K;refine kK 21 q157 ?_;refine kK 22 q158 ?_;refine kK 23 q159 ?_;refine kN 24 q160 ?_;refine kN 25 q161 ?_;refine kN 26 q162 ?_;refine kN 27 q163 ?_;refine kN 28 q164 ?_;refine kN 29 q165 ?_;refine kN 30 q166 ?_;refine kN 31 q167 ?_;refine kN 32 q168 ?_;refine kN 33 q169 ?_;refine kN 34 q170 ?_;refine kN 35 q171 ?_;refine kN 36 q172 ?_;refine kN 37 q173 ?_;refine kN 38 q174 ?_;refine kN 39 q175 ?_;refine kN 40 q176 ?_;refine kN 41 q177 ?_;refine kN 42 q178 ?_;refine kN 43 q179 ?_;refine kN 44 q180 ?_;refine kN 45 q181 ?_;refine kN 46 q182 ?_;refine kN 47 q183 ?_;refine kN 48 q184 ?_;refine kK 49 q185 ?_;refine wpAnyH_done (by kernel_rfl) ?_ _;have HB:=hide (zc ba vv);clear hHeld vv kNe kL;go_wp2;go_ret;exact ⟨false,rfl,HNO.out,HB.out⟩
      ·obtain ⟨⟨u,hu⟩,u1⟩:=zg2 h1;obtain ⟨⟨v,hv⟩,v1⟩:=zg2 h2;have HNO:Hid (u.up≠v.up→((false=true)↔NetOk N.brs N.ls N.ss)):=hide (fun hne=>zbK fun hp=>by
        obtain ⟨u',v',hu',hv',he⟩:=(hp.2.1.2 x hmem).1.2;rw [hu] at hu';rw [hv] at hv';cases hu';cases hv';exact hne he)
       have HYES:Hid (u.up=v.up→∀y∈N.ls.take (k+1),zeH N.brs N.ls y):=hide (fun he=>zee HX.out HLK.out ⟨⟨hab,u,v,hu,hv,he⟩,u1,v1⟩);obtain ⟨ka,ja,bb,off,pa,oa,na,ca,ea,ep,ia1,ia2,hba,m1,m2⟩:=zgb (h.below ba) hu;obtain ⟨kb,jb,bb',off',pb,ob,nb,cb,eb,eq,ib1,ib2,hba',m3,m4⟩:=zgb (h.below ba) hv;rw [hba] at hba';cases hba';have hG:GRow brF w (some ⟨bb,off,none⟩) N.bn N.bc N.bs:=by rw [← hba]; exact h.b
       have hM:zac w ⟨some ⟨bb,off,none⟩,N.bn,N.bc,N.bs,N.la,N.ln,N.lc,N.ls,N.sa,N.sn,N.sc,N.ss⟩:=⟨hG,h.item,h.l,h.s⟩;rw [ea,ep] at h1;rw [eb,eq] at h2;rw [hba] at kNe;rw [ea,ep,eb,eq] at kL;have hab:¬((ka:Int)=(kb:Int)):=by rw [← ea,← eb]; exact hab
       have HBA:=hide hba;rw [ea] at a0;rw [ep] at a1;rw [eb] at a2;rw [eq] at a3;rw [ea,ep,eb,eq] at hwa;have j1:(0:Int)≤(ka:Int):=by omega
       have j2:(ka:Int) < (N.bn:Int):=by omega
       have j3:(0:Int)≤(ja:Int):=by omega
       have j4:(ja:Int) < (na:Int):=by omega
       have j5:(0:Int)≤(kb:Int):=by omega
       have j6:(kb:Int) < (N.bn:Int):=by omega
       have j7:(0:Int)≤(jb:Int):=by omega
       have j8:(jb:Int) < (nb:Int):=by omega
       clear ea ep eb eq hba hu hv u1 v1 hmem HX HLK;(go_wp2_with fail);refine wp_region_held_drew (S:=(fun W=>(zcc W w.heap.size 0 (.slice (some ⟨bb,off,none⟩) N.bn N.bc)∧zcc W w.heap.size 1 (.slice N.la N.ln N.lc)∧zcc W w.heap.size 2 (.slice N.sa N.sn N.sc))∧(zcc W wr.heap.size 0 (.int .i64 (ka:Int))∧zcc W wr.heap.size 1 (.int .i64 (ja:Int))∧zcc W wr.heap.size 2 (.int .i64 (kb:Int))∧zcc W wr.heap.size 3 (.int .i64 (jb:Int)))∧(zcc W bb (off+ka*11+2) (.slice (some ⟨pa,oa,none⟩) na ca)∧zcc W pa (oa+ja*8) (.bool u.up))∧(zcc W bb (off+kb*11+2) (.slice (some ⟨pb,ob,none⟩) nb cb)∧zcc W pb (ob+jb*8) (.bool v.up)))) (by kernel_rfl) (⟨zd (za kNe vv),zr (za kL vv),⟨(vv.cell (zp m1)).trans m1,(vv.cell (zp m2)).trans m2⟩,⟨(vv.cell (zp m3)).trans m3,(vv.cell (zp m4)).trans m4⟩⟩) (fun hHeld => ?_);refine kK 0 q136 ?_;refine kK 1 q137 ?_;refine kK 2 q138 ?_;refine kK 3 q139 ?_;refine kV 4 q140 (.bool false) ?_;refine kK 5 q141 ?_;refine kK 6 q142 ?_;refine kK 7 q143 ?_;refine kK 8 q144 ?_;refine kK 9 q145 ?_;refine kK 10 q146 ?_;refine kR 11 q147 (fun K hK => ?_);go_simp;refine (zbb ⟨some ⟨bb,off,none⟩,N.bn,N.bc,N.bs,N.la,N.ln,N.lc,N.ls,N.sa,N.sn,N.sc,N.ss⟩ (ka:Int) (ja:Int) _ (hM.below (zc ba vv)) hsm).mono ?_;rintro r wz ⟨rfl,hbz⟩;rw [show endOk (NV.brs ⟨some ⟨bb,off,none⟩,N.bn,N.bc,N.bs,N.la,N.ln,N.lc,N.ls,N.sa,N.sn,N.sc,N.ss⟩) (NV.ls ⟨some ⟨bb,off,none⟩,N.bn,N.bc,N.bs,N.la,N.ln,N.lc,N.ls,N.sa,N.sn,N.sc,N.ss⟩) (ka:Int) (ja:Int)=true from h1];have vv:=zc vv hbz;(go_wp2_with fail);refine kO hK (⟨zd (za kNe vv),zr (za kL vv),⟨(vv.cell (zp m1)).trans m1,(vv.cell (zp m2)).trans m2⟩,⟨(vv.cell (zp m3)).trans m3,(vv.cell (zp m4)).trans m4⟩⟩) fun hHeld => ?_
       clear hK K;refine kK 12 q148 ?_;refine kK 13 q149 ?_;refine kK 14 q150 ?_;refine kK 15 q151 ?_;refine kK 16 q152 ?_;refine kK 17 q153 ?_;refine kK 18 q154 ?_;refine kK 19 q155 ?_;refine kR 20 q156 (fun K hK => ?_);go_simp;refine (zbb ⟨some ⟨bb,off,none⟩,N.bn,N.bc,N.bs,N.la,N.ln,N.lc,N.ls,N.sa,N.sn,N.sc,N.ss⟩ (kb:Int) (jb:Int) _ (hM.below (zc ba vv)) hsm).mono ?_;rintro r wz ⟨rfl,hbz⟩;rw [show endOk (NV.brs ⟨some ⟨bb,off,none⟩,N.bn,N.bc,N.bs,N.la,N.ln,N.lc,N.ls,N.sa,N.sn,N.sc,N.ss⟩) (NV.ls ⟨some ⟨bb,off,none⟩,N.bn,N.bc,N.bs,N.la,N.ln,N.lc,N.ls,N.sa,N.sn,N.sc,N.ss⟩) (kb:Int) (jb:Int)=true from h2];have vv:=zc vv hbz;(go_wp2_with fail);refine kO hK (⟨zd (za kNe vv),zr (za kL vv),⟨(vv.cell (zp m1)).trans m1,(vv.cell (zp m2)).trans m2⟩,⟨(vv.cell (zp m3)).trans m3,(vv.cell (zp m4)).trans m4⟩⟩) fun hHeld => ?_
       clear hK K;refine kK 21 q157 ?_;refine kK 22 q158 ?_;refine kK 23 q159 ?_;refine kK 24 q160 ?_;refine kK 25 q161 ?_;refine kK 26 q162 ?_;refine kK 27 q163 ?_;refine kK 28 q164 ?_;refine kK 29 q165 ?_;refine kK 30 q166 ?_;refine kK 31 q167 ?_;refine kK 32 q168 ?_;refine kK 33 q169 ?_;refine kK 34 q170 ?_;refine kK 35 q171 ?_;refine kK 36 q172 ?_;refine kK 37 q173 ?_;refine kK 38 q174 ?_;refine kK 39 q175 ?_;refine kK 40 q176 ?_;refine kK 41 q177 ?_;refine kK 42 q178 ?_;refine kK 43 q179 ?_;refine kK 44 q180 ?_;refine kK 45 q181 ?_;refine kK 46 q182 ?_;refine kK 47 q183 ?_;refine kK 48 q184 ?_;refine kK 49 q185 ?_;refine wpAnyH_done (by kernel_rfl) ?_ _;have HB:=hide (zc ba vv);have HK:=hide (za kNe vv);clear hHeld vv kNe kL m1 m2 m3 m4;cases hu:u.up <;> cases hv:v.up
       ·go_wp2
        go_roundw
        case rel=>exact ⟨k+1,by omega,by go_num,(HYES.out (by rw [hu,hv])),by rw [HBA.out]; exact HK.out,HB.out⟩
        case measure=>simp [intOf]; omega
       ·go_wp2;go_ret;exact ⟨false,rfl,HNO.out (by rw [hu,hv]; simp),HB.out⟩
       ·go_wp2;go_ret;exact ⟨false,rfl,HNO.out (by rw [hu,hv]; simp),HB.out⟩
       ·go_wp2
        go_roundw
        case rel=>exact ⟨k+1,by omega,by go_num,(HYES.out (by rw [hu,hv])),by rw [HBA.out]; exact HK.out,HB.out⟩
        case measure=>simp [intOf]; omega
   ·have hkn:k=N.ln:=by omega
    rw [List.take_of_length_le (by have:=hlsz.out; omega)] at hlk;have HLK:=hide hlk;clear hlk hlt;(go_wp2_with fail);clear x0 x1 x2
    go_loopw [5] (fun i wr=>∃k:Nat,k≤N.sn∧i=.int .i64 k∧(∀y∈N.ss.take k,SayOk N.ls y)∧wr.heap[w.heap.size]? = some (.cells #[.slice N.ba N.bn N.bc,.slice N.la N.ln N.lc,.slice N.sa N.sn N.sc] 28)∧Below w.heap.size w wr) (fun i _=>N.sn - (intOf i).toNat)
    case atStart=>exact ⟨0,Nat.zero_le _,rfl,by intro y hy; simp at hy,hbox,hb⟩
    case round =>
     clear hbox hb hkn hk;obtain ⟨k,hk,rfl,hss,kNe,hb⟩:=hrel;obtain ⟨x0,x1,x2⟩:=zd kNe;by_cases hlt:k < N.sn
     ·obtain ⟨y,sb,so,hy,hsa,-⟩:=ziD (h.s.below hb) k hlt;have HS:Hid (GRow sayF wr (some ⟨sb,so,none⟩) N.sn N.sc N.ss):=hide (by rw [← hsa]; exact h.s.below hb);have HSA:=hide hsa;have i1:(0:Int)≤(k:Int):=by omega
      have i2:(k:Int) < (N.sn:Int):=by omega
      have hmem:=List.mem_of_getElem? hy;have HY:=hide hy;have HSS:=hide hss;have vv:Below wr.heap.size wr wr.drew:=zG (Below.refl _ _);have hls:=hlsz.out;have hwl:IntKind.i64.wrap ((N.ln:Int) - 1)=(N.ln:Int) - 1:=by rw [IntKind.wrap_i64]; omega
      clear hy hss hsa;cases h1:(decide (0≤y.l) && decide (y.l≤(N.ln:Int) - 1))
      ·have HNO:Hid ((false=true)↔NetOk N.brs N.ls N.ss):=hide (zbK fun hp=>by
        have:=(hp.2.2.2.2 y hmem).1
        rw [hls,h1] at this;cases this)
       (go_wp2_with fail);refine wp_region_held_drew (S:=(fun W=>(zcc W w.heap.size 0 (.slice N.ba N.bn N.bc)∧zcc W w.heap.size 1 (.slice N.la N.ln N.lc)∧zcc W w.heap.size 2 (.slice (some ⟨sb,so,none⟩) N.sn N.sc))∧(zcc W sb (so+k*7) (.int .i64 y.l)∧zcc W sb (so+k*7+1) (.bool y.back)∧zcc W sb (so+k*7+2) (.int .i64 y.v.r)∧zcc W sb (so+k*7+3) (.int .i64 y.v.c)∧zcc W sb (so+k*7+4) (.int .i64 y.v.h)∧zcc W sb (so+k*7+5) (.int .i64 y.v.b)∧zcc W sb (so+k*7+6) (.int .i64 y.v.p)))) (by kernel_rfl) (⟨by have:=zd (za kNe vv); rw [HSA.out] at this; exact this,zaO HS.out vv HY.out⟩) (fun hHeld => ?_);refine kK 0 q186 ?_;refine kK 1 q187 ?_;refine kK 2 q188 ?_;refine kK 3 q189 ?_;refine kK 4 q190 ?_;refine kK 5 q191 ?_;refine kK 6 q192 ?_;refine kK 7 q193 ?_;refine kK 8 q194 ?_;refine kK 9 q195 ?_;refine kR 10 q196 (fun K hK => ?_);go_simp;refine (zf y.l 0 ((N.ln:Int) - 1) _).mono ?_;rintro r wz ⟨rfl,ew⟩;obtain rfl:=ew.symm;rw [h1];(go_wp2_with fail);refine kO hK (⟨by have:=zd (za kNe vv); rw [HSA.out] at this; exact this,zaO HS.out vv HY.out⟩) fun hHeld => ?_
       clear hK K;refine kK 11 q197 ?_;refine kK 12 q198 ?_;refine kN 13 q199 ?_;refine kN 14 q200 ?_;refine kN 15 q201 ?_;refine kN 16 q202 ?_;refine kN 17 q203 ?_;refine kN 18 q204 ?_;refine kN 19 q205 ?_;refine kN 20 q206 ?_;refine kK 21 q207 ?_;refine wpAnyH_done (by kernel_rfl) ?_ _;have HB:=hide (zc hb vv);clear hHeld vv kNe;go_wp2;go_ret;exact ⟨false,rfl,HNO.out,HB.out⟩
      ·cases h2:okVc y.v.r y.v.c y.v.h y.v.b y.v.p
       ·have HNO:Hid ((false=true)↔NetOk N.brs N.ls N.ss):=hide (zbK fun hp=>by
         have:=(hp.2.2.2.2 y hmem).2
         unfold okVd at this;rw [h2] at this;cases this)
        (go_wp2_with fail);refine wp_region_held_drew (S:=(fun W=>(zcc W w.heap.size 0 (.slice N.ba N.bn N.bc)∧zcc W w.heap.size 1 (.slice N.la N.ln N.lc)∧zcc W w.heap.size 2 (.slice (some ⟨sb,so,none⟩) N.sn N.sc))∧(zcc W sb (so+k*7) (.int .i64 y.l)∧zcc W sb (so+k*7+1) (.bool y.back)∧zcc W sb (so+k*7+2) (.int .i64 y.v.r)∧zcc W sb (so+k*7+3) (.int .i64 y.v.c)∧zcc W sb (so+k*7+4) (.int .i64 y.v.h)∧zcc W sb (so+k*7+5) (.int .i64 y.v.b)∧zcc W sb (so+k*7+6) (.int .i64 y.v.p)))) (by kernel_rfl) (⟨by have:=zd (za kNe vv); rw [HSA.out] at this; exact this,zaO HS.out vv HY.out⟩) (fun hHeld => ?_);refine kK 0 q186 ?_;refine kK 1 q187 ?_;refine kK 2 q188 ?_;refine kK 3 q189 ?_;refine kK 4 q190 ?_;refine kK 5 q191 ?_;refine kK 6 q192 ?_;refine kK 7 q193 ?_;refine kK 8 q194 ?_;refine kK 9 q195 ?_;refine kR 10 q196 (fun K hK => ?_);go_simp;refine (zf y.l 0 ((N.ln:Int) - 1) _).mono ?_;rintro r wz ⟨rfl,ew⟩;obtain rfl:=ew.symm;rw [h1];(go_wp2_with fail);refine kO hK (⟨by have:=zd (za kNe vv); rw [HSA.out] at this; exact this,zaO HS.out vv HY.out⟩) fun hHeld => ?_
        clear hK K;refine kK 11 q197 ?_;refine kK 12 q198 ?_;refine kK 13 q199 ?_;refine kK 14 q200 ?_;refine kK 15 q201 ?_;refine kK 16 q202 ?_;refine kK 17 q203 ?_;refine kK 18 q204 ?_;refine kR 19 q205 (fun K hK => ?_);go_simp;refine (zab y.v.r y.v.c y.v.h y.v.b y.v.p _).mono ?_;rintro r wz ⟨rfl,hbz⟩;rw [h2];have vv:=zc vv hbz;(go_wp2_with fail);refine kO hK (⟨by have:=zd (za kNe vv); rw [HSA.out] at this; exact this,zaO HS.out vv HY.out⟩) fun hHeld => ?_
        clear hK K;refine kK 20 q206 ?_;refine kK 21 q207 ?_;refine wpAnyH_done (by kernel_rfl) ?_ _;have HB:=hide (zc hb vv);clear hHeld vv kNe;go_wp2;go_ret;exact ⟨false,rfl,HNO.out,HB.out⟩
       ·have HYES:=hide (zee HY.out HSS.out (P:=SayOk N.ls) ⟨by rw [hls]; exact h1,h2⟩);(go_wp2_with fail);refine wp_region_held_drew (S:=(fun W=>(zcc W w.heap.size 0 (.slice N.ba N.bn N.bc)∧zcc W w.heap.size 1 (.slice N.la N.ln N.lc)∧zcc W w.heap.size 2 (.slice (some ⟨sb,so,none⟩) N.sn N.sc))∧(zcc W sb (so+k*7) (.int .i64 y.l)∧zcc W sb (so+k*7+1) (.bool y.back)∧zcc W sb (so+k*7+2) (.int .i64 y.v.r)∧zcc W sb (so+k*7+3) (.int .i64 y.v.c)∧zcc W sb (so+k*7+4) (.int .i64 y.v.h)∧zcc W sb (so+k*7+5) (.int .i64 y.v.b)∧zcc W sb (so+k*7+6) (.int .i64 y.v.p)))) (by kernel_rfl) (⟨by have:=zd (za kNe vv); rw [HSA.out] at this; exact this,zaO HS.out vv HY.out⟩) (fun hHeld => ?_);refine kK 0 q186 ?_;refine kK 1 q187 ?_;refine kK 2 q188 ?_;refine kK 3 q189 ?_;refine kK 4 q190 ?_;refine kK 5 q191 ?_;refine kK 6 q192 ?_;refine kK 7 q193 ?_;refine kK 8 q194 ?_;refine kK 9 q195 ?_;refine kR 10 q196 (fun K hK => ?_);go_simp;refine (zf y.l 0 ((N.ln:Int) - 1) _).mono ?_;rintro r wz ⟨rfl,ew⟩;obtain rfl:=ew.symm;rw [h1];(go_wp2_with fail);refine kO hK (⟨by have:=zd (za kNe vv); rw [HSA.out] at this; exact this,zaO HS.out vv HY.out⟩) fun hHeld => ?_
        clear hK K;refine kK 11 q197 ?_;refine kK 12 q198 ?_;refine kK 13 q199 ?_;refine kK 14 q200 ?_;refine kK 15 q201 ?_;refine kK 16 q202 ?_;refine kK 17 q203 ?_;refine kK 18 q204 ?_;refine kR 19 q205 (fun K hK => ?_);go_simp;refine (zab y.v.r y.v.c y.v.h y.v.b y.v.p _).mono ?_;rintro r wz ⟨rfl,hbz⟩;rw [h2];have vv:=zc vv hbz;(go_wp2_with fail);refine kO hK (⟨by have:=zd (za kNe vv); rw [HSA.out] at this; exact this,zaO HS.out vv HY.out⟩) fun hHeld => ?_
        clear hK K;refine kK 20 q206 ?_;refine kK 21 q207 ?_;refine wpAnyH_done (by kernel_rfl) ?_ _;have HB:=hide (zc hb vv);have HK:=hide (za kNe vv);clear hHeld vv kNe;go_wp2
        go_roundw
        case rel=>exact ⟨k+1,by omega,by go_num,HYES.out,HK.out,HB.out⟩
        case measure=>simp [intOf]; omega
     ·have hkn:k=N.sn:=by omega
      rw [List.take_of_length_le (by have:=hssz.out; omega)] at hss;have HP:Hid (NetOk N.brs N.ls N.ss):=hide (⟨HBR.out.1,⟨by have:=hlsz.out; omega,HLK.out⟩,HBR.out.2,by have:=hssz.out; omega,hss⟩);clear hss;go_wp2;go_ret;exact ⟨true,rfl,zi5 HP.out,hb⟩

theorem PtAt.later {w w':World} {v:Option Addr} {o:Option PT} (h:PtAt w v o) (hb:Below w.heap.size w w'):PtAt w' v o:=by
 cases o with
 | none=>exact h
 | some y =>
  obtain ⟨g,j,e,c⟩:=h;exact ⟨g,j,e,(hb.cell (zp c)).trans c⟩

theorem zdN (N:NV) (k:Int) (w:World) (h:zac w N) :
  Calls Tryz.prog 25 #[.agg #[.slice N.ba N.bn N.bc,.slice N.la N.ln N.lc,.slice N.sa N.sn N.sc],.int .i64 k] w fun e w'=>e=.returned (.bool (zQ N.brs N.ls k))∧Below w.heap.size w w':=by
 have hle:=Nat.le_trans h.l.le h.l.top;unfold maxLen at hle;have hsz:=h.l.size;generalize hG:zQ N.brs N.ls k=U;have HG:=hide hG;clear hG;generalize hw1:w.alloc (Obj.cells #[.slice N.ba N.bn N.bc,.slice N.la N.ln N.lc,.slice N.sa N.sn N.sc] 28)=w1;have b01:=zb hw1;have k1:=zk hw1;obtain ⟨x0,x1,x2⟩:=zd k1;cases hA:(decide (0≤k) && decide (k≤(N.ln:Int) - 1))
 ·have HF:Hid (U=false):=hide (by
   rw [← HG.out];unfold zQ
   split
   ·rw [List.getElem?_eq_none (by simp at hA; omega)]
   ·rfl)
  go_enter Tryz.func25,Tryz.ntmps25;(go_wp2_with fail);refine (zap k 0 ((N.ln:Int) - 1) _).mono ?_;rintro e w2 ⟨rfl,ew⟩;obtain rfl:=ew.symm;rw [hA];clear hA;go_wp2;go_ret;exact ⟨by rw [HF.out]; rfl,b01⟩
 ·obtain ⟨j,rfl⟩:∃j:Nat,k=(j:Int):=⟨k.toNat,by simp at hA; omega⟩;have hj:j < N.ln:=by simp at hA; omega
  obtain ⟨x,lb,off,hx,hla,a0,a1,a2,a3⟩:=zak (h.l.below b01) j hj;have HG:Hid ((upAt N.brs x.a x.p && upAt N.brs x.b x.q)=U):=hide (by rw [← HG.out]; unfold zQ; rw [if_pos (by omega),Int.toNat_natCast,hx]);have i1:(0:Int)≤(j:Int):=by omega
  have i2:(j:Int) < (N.ln:Int):=by omega
  rw [hla] at x1;clear hx hla;go_enter Tryz.func25,Tryz.ntmps25;(go_wp2_with fail);refine (zap (j:Int) 0 ((N.ln:Int) - 1) _).mono ?_;rintro e w2 ⟨rfl,ew⟩;obtain rfl:=ew.symm;rw [hA];clear hA;(go_wp2_with fail);refine (zcK x _).mono ?_;rintro e we ⟨rfl,hbe⟩;have kNe:=za k1 hbe;have b0e:=zc b01 hbe;clear x0 x1 x2 a0 a1 a2 a3 k1 hbe;generalize hwq:we.alloc (Obj.cells #[.int .i64 x.a,.int .i64 x.p,.int .i64 x.b,.int .i64 x.q] 69)=wq;have bq:=zb hwq;have kE:=zk hwq;have kNe:=za kNe bq;have bq:=zc b0e bq;clear b0e;have vv:Below wq.heap.size wq wq.drew:=zG (Below.refl _ _);(go_wp2_with fail);refine wp_region_held_drew (S:=(fun W=>(zcc W w.heap.size 0 (.slice N.ba N.bn N.bc)∧zcc W w.heap.size 1 (.slice N.la N.ln N.lc)∧zcc W w.heap.size 2 (.slice N.sa N.sn N.sc))∧(zcc W we.heap.size 0 (.int .i64 x.a)∧zcc W we.heap.size 1 (.int .i64 x.p)∧zcc W we.heap.size 2 (.int .i64 x.b)∧zcc W we.heap.size 3 (.int .i64 x.q)))) (by kernel_rfl) (⟨zd (za kNe vv),zr (za kE vv)⟩) (fun hHeld => ?_);refine kK 0 ⟨some 21,.load 28 (.tmp 2),28,"l13_net.go:74",#[],none⟩ ?_;refine kK 1 ⟨some 22,.indexAddr 69 (.tmp 5) (.const (.int .i64 0)),0,"l13_net.go:74",#[],none⟩ ?_;refine kK 2 ⟨some 23,.load 68 (.tmp 22),68,"l13_net.go:74",#[⟨1,.data⟩],none⟩ ?_;refine kK 4 ⟨some 25,.load 28 (.tmp 2),28,"l13_net.go:74",#[],none⟩ ?_;refine kK 5 ⟨some 26,.indexAddr 69 (.tmp 5) (.const (.int .i64 1)),0,"l13_net.go:74",#[],none⟩ ?_;refine kK 6 ⟨some 27,.load 68 (.tmp 26),68,"l13_net.go:74",#[⟨5,.data⟩],none⟩ ?_;refine kR 3 ⟨some 24,.call ⟨.value (.func 52),#[.tmp 21,.tmp 23],#[28,68]⟩,108,"l13_net.go:74",#[⟨0,.data⟩,⟨2,.data⟩],none⟩ (fun K hK => ?_);go_simp;refine (zd5 N x.a x.p _ (h.below (zc bq vv))).mono ?_;rintro r wz ⟨v1,rfl,v1P,hbz⟩;have v1P:=PtAt.later v1P hbz;(try have v2P:=PtAt.later v2P hbz);have vv:=zc vv hbz;(go_wp2_with fail);refine kO hK (⟨zd (za kNe vv),zr (za kE vv)⟩) fun hHeld => ?_
  clear hK K;refine kR 7 ⟨some 28,.call ⟨.value (.func 52),#[.tmp 25,.tmp 27],#[28,68]⟩,108,"l13_net.go:74",#[⟨4,.data⟩,⟨6,.data⟩,⟨3,.chain⟩],none⟩ (fun K hK => ?_);go_simp;refine (zd5 N x.b x.q _ (h.below (zc bq vv))).mono ?_;rintro r wz ⟨v2,rfl,v2P,hbz⟩;have v2P:=PtAt.later v2P hbz;(try have v1P:=PtAt.later v1P hbz);have vv:=zc vv hbz;(go_wp2_with fail);refine kO hK (⟨zd (za kNe vv),zr (za kE vv)⟩) fun hHeld => ?_
  clear hK K;refine kK 8 ⟨some 6,.assign (.tmp 24),108,"l13_net.go:74",#[⟨3,.data⟩,⟨7,.chain⟩,⟨0,.phase⟩,⟨1,.phase⟩,⟨2,.phase⟩,⟨3,.phase⟩,{ on:=4,ground:=Ground.textOnly Departure.lateStores },{ on:=5,ground:=Ground.textOnly Departure.lateStores },{ on:=6,ground:=Ground.textOnly Departure.lateStores },{ on:=7,ground:=Ground.textOnly Departure.lateStoresUnsure }],none⟩ ?_;refine kK 9 ⟨some 7,.assign (.tmp 28),108,"l13_net.go:74",#[⟨7,.data⟩,⟨8,.chain⟩,⟨0,.phase⟩,⟨1,.phase⟩,⟨2,.phase⟩,⟨3,.phase⟩,⟨4,.phase⟩,⟨5,.phase⟩,⟨6,.phase⟩,⟨7,.phase⟩,⟨8,.phase⟩],none⟩ ?_;refine wpAnyH_done (by kernel_rfl) ?_ _;have HB:=hide (zc bq vv);have bz:=zc bq vv;clear hHeld kNe kE vv;cases hP:zM N.brs x.a x.p with
  | none =>
   rw [hP] at v1P;have e1:v1=none:=v1P;subst e1;have HF:Hid (U=false):=hide (by rw [← HG.out]; unfold upAt; rw [hP]; rfl);clear bz v2P v1P;go_wp2;go_ret;exact ⟨by rw [HF.out]; rfl,HB.out⟩
  | some y1 =>
   rw [hP] at v1P;obtain ⟨p1,o1,rfl,q1⟩:=v1P;cases hQ:zM N.brs x.b x.q with
   | none =>
    rw [hQ] at v2P;have e2:v2=none:=v2P;subst e2;have HF:Hid (U=false):=hide (by rw [← HG.out]; unfold upAt; rw [hQ]; simp);clear bz v2P q1;go_wp2;go_ret;exact ⟨by rw [HF.out]; rfl,HB.out⟩
   | some y2 =>
    rw [hQ] at v2P;obtain ⟨p2,o2,rfl,q2⟩:=v2P;have HF:Hid (U=(y1.up && y2.up)):=hide (by rw [← HG.out]; unfold upAt; rw [hP,hQ]);clear bz hP hQ;cases h1:y1.up
    ·rw [h1] at q1;have HF:Hid (U=false):=hide (by rw [HF.out,h1]; rfl);go_wp2;go_ret;exact ⟨by rw [HF.out]; rfl,HB.out⟩
    ·rw [h1] at q1;have HF:Hid (U=y2.up):=hide (by rw [HF.out,h1]; rfl);go_wp2;go_ret;exact ⟨by rw [HF.out]; rfl,HB.out⟩

theorem zdg {w:World} {g:Nat} {o:Obj} (h:w.heap[g]? = some o):g+1≤w.heap.size:=by
 by_cases hg:g < w.heap.size
 ·exact hg
 ·rw [Array.getElem?_eq_none (by omega)] at h; cases h

theorem BrOwn.other {w:World} {base:Nat} {a:Option Addr} {n c:Nat} {fa:Option Addr} {fn fc:Nat} {ra:Option Addr} {rn rc:Nat} {oa:Option Addr} {on oc:Nat} {B:BR} (h:BrOwn w base a n c fa fn fc ra rn rc oa on oc B) {X:Nat} {cs:Array Value} {T:TypeId} (hX:w.heap[X]? = some (.cells cs T)) (h1:(53:Nat)≠T) (h2:(145:Nat)≠T) (h3:(167:Nat)≠T) (h4:(3:Nat)≠T) (j:Nat) (u:Value):BrOwn (w.setCell ⟨X,j,none⟩ u) base a n c fa fn fc ra rn rc oa on oc B :=
 ⟨zo h.ports (zj (rb:=X) j u) (zt h.ports hX h1),zo h.f (zj (rb:=X) j u) (zt h.f hX h2),
  ⟨zo h.v.rows (zj (rb:=X) j u) (zt h.v.rows hX h3),zo h.v.own (zj (rb:=X) j u) (zt h.v.own hX h4),h.v.i64⟩⟩

theorem BOs.boxed {w w':World} {base:Nat} {ao:Option Addr} {n cap:Nat} {l:List BV} (h:BOs w base ao n cap l) {X:Nat} {cs:Array Value} (hX:w.heap[X]? = some (.cells cs 28)) (hg:w.grownBy w' (some X)):BOs w' base ao n cap l :=
 ⟨zo h.row hg (zt h.row hX (by decide)),fun x hx=>(h.item x hx).other hX (by decide) (by decide) (by decide) (by decide) hg,h.apart⟩

theorem zaT {w:World} {base g n cap j:Nat} {pre post:List BV} {x:BV} (y:BV) (hj:pre.length=j) (h:w.ownsRow base 44 11 (.slice (some ⟨g,0,none⟩) n cap) n (brF.all (pre++x::post))) {K:World→Prop} (hK:∀wq,wq.ownsRow base 44 11 (.slice (some ⟨g,0,none⟩) n cap) n (brF.all (pre++y::post))→w.grownBy wq (some g)→K wq) :
  K (((((((((((w.setCell ⟨g,j*11,none⟩ (.int .i64 y.B.id)).setCell ⟨g,j*11+1,none⟩ (.string y.B.name)).setCell ⟨g,j*11+2,none⟩ (.slice y.a y.n y.c)).setCell ⟨g,j*11+3,none⟩ (.slice y.fa y.fn y.fc)).setCell ⟨g,j*11+4,none⟩ (.slice y.ra y.rn y.rc)).setCell ⟨g,j*11+5,none⟩ (.slice y.oa y.on y.oc)).setCell ⟨g,j*11+6,none⟩ (.int .i64 y.B.ticks)).setCell ⟨g,j*11+7,none⟩ (.int .i64 y.B.parse)).setCell ⟨g,j*11+8,none⟩ (.int .i64 y.B.word)).setCell ⟨g,j*11+9,none⟩ (.int .i64 y.B.drops)).setCell ⟨g,j*11+10,none⟩ (.int .i64 y.B.vers)):=by
 subst hj;exact hK _ (zgq h) zfm

theorem zW {W:World} {X:Nat} {c0 c1 c2:Value} {T:TypeId} {K:World→Prop} (hk:W.heap[X]? = some (.cells #[c0,c1,c2] T)) (v0 v1 v2:Value) (h:∀wq,wq.heap[X]? = some (.cells #[v0,v1,v2] T)→W.grownBy wq (some X)→K wq):K (((W.setCell ⟨X,0,none⟩ v0).setCell ⟨X,1,none⟩ v1).setCell ⟨X,2,none⟩ v2):=by
 refine h _ ?_ (zL (zL (zj 0 _) (zj 1 _)) (zj 2 _));have h0:=zD (j:=0) hk v0;have h1:=zD (j:=1) h0 v1;have h2:=zD (j:=2) h1 v2
 simpa using h2

end Go.Proofs.YtkaefmfopejbaaaGreat
