/-
  One round of the test of what goes out, in FnSent: a region that draws its order, at whatever frame.
-/
import Derived.Test.YtddalpglihhipaaGreatPSKW
import Derived.Test.YtddalpglihhipaaGreatPSBrSameI
import Derived.Test.YtddalpglihhipaaGreatPSFwdI
import Derived.Test.YtddalpglihhipaaGreatPSFwdS
import Derived.Test.YtddalpglihhipaaGreatPSK01
import Derived.Test.YtddalpglihhipaaGreatPSK07
import Derived.Test.YtddalpglihhipaaGreatPSK12
import Derived.Test.YtddalpglihhipaaGreatPSK19
import Derived.Test.YtddalpglihhipaaGreatPSK29
import Derived.Test.YtddalpglihhipaaGreatPSK30
import Derived.Deep.CutRange
namespace Go.Proofs.YtddalpglihhipaaGreat
open Go.RowKit

abbrev q458 : Oper := ⟨some 104, .move (.tmp 14), 3, "laws.go:665", #[], none⟩
abbrev q459 : Oper := ⟨some 105, .move (.tmp 4), 3, "laws.go:665", #[], none⟩
abbrev q460 : Oper := ⟨some 106, .binOp .eql 3 (.tmp 104) (.tmp 105) 3, 4, "laws.go:665", #[⟨0, .data⟩, ⟨1, .data⟩], none⟩
abbrev q461 : Oper := ⟨some 107, .move (.tmp 106), 4, "laws.go:665", #[⟨2, .data⟩], none⟩
abbrev q462 : Oper := ⟨some 108, .move (.tmp 12), 3, "laws.go:665", #[⟨3, .guard⟩], some (3, false)⟩
abbrev q463 : Oper := ⟨some 109, .move (.tmp 14), 3, "laws.go:665", #[⟨3, .guard⟩], some (3, false)⟩
abbrev q464 : Oper := ⟨some 110, .call ⟨.value (.func 15), #[.tmp 108, .tmp 109], #[3, 3]⟩, 4, "laws.go:665", #[⟨4, .data⟩, ⟨5, .data⟩, ⟨3, .chain⟩, ⟨3, .guard⟩], some (3, false)⟩
abbrev q465 : Oper := ⟨some 111, .unOp .not 4 (.tmp 110), 4, "laws.go:665", #[⟨6, .data⟩, ⟨3, .guard⟩], some (3, false)⟩
abbrev q466 : Oper := ⟨some 112, .pick (.tmp 107) (.const (.bool true)) (.tmp 111), 4, "laws.go:665", #[⟨3, .data⟩, ⟨7, .data⟩], none⟩
abbrev q467 : Oper := ⟨some 113, .move (.tmp 112), 4, "laws.go:665", #[⟨8, .data⟩, ⟨6, .chain⟩], none⟩
abbrev q468 : Oper := ⟨some 114, .fieldAddr 31 (.tmp 3) 4, 0, "laws.go:665", #[⟨9, .guard⟩], some (9, false)⟩
abbrev q469 : Oper := ⟨some 115, .load 29 (.tmp 114), 29, "laws.go:665", #[⟨10, .data⟩, ⟨9, .guard⟩], some (9, false)⟩
abbrev q470 : Oper := ⟨some 116, .move (.tmp 10), 3, "laws.go:665", #[⟨9, .guard⟩], some (9, false)⟩
abbrev q471 : Oper := ⟨some 117, .call ⟨.value (.func 17), #[.tmp 115, .tmp 116], #[29, 3]⟩, 3, "laws.go:665", #[⟨11, .data⟩, ⟨12, .data⟩, ⟨9, .chain⟩, ⟨9, .guard⟩], some (9, false)⟩
abbrev q472 : Oper := ⟨some 118, .move (.tmp 14), 3, "laws.go:665", #[⟨9, .guard⟩], some (9, false)⟩
abbrev q473 : Oper := ⟨some 119, .call ⟨.value (.func 15), #[.tmp 117, .tmp 118], #[3, 3]⟩, 4, "laws.go:665", #[⟨13, .data⟩, ⟨14, .data⟩, ⟨13, .chain⟩, ⟨9, .guard⟩], some (9, false)⟩
abbrev q474 : Oper := ⟨some 120, .unOp .not 4 (.tmp 119), 4, "laws.go:665", #[⟨15, .data⟩, ⟨9, .guard⟩], some (9, false)⟩
abbrev q475 : Oper := ⟨some 121, .pick (.tmp 113) (.const (.bool true)) (.tmp 120), 4, "laws.go:665", #[⟨9, .data⟩, ⟨16, .data⟩], none⟩
abbrev q476 : Oper := ⟨some 122, .move (.tmp 121), 4, "laws.go:665", #[⟨17, .data⟩, ⟨15, .chain⟩], none⟩
abbrev q477 : Oper := ⟨some 123, .move (.tmp 7), 36, "laws.go:665", #[⟨18, .guard⟩], some (18, false)⟩
abbrev q478 : Oper := ⟨some 124, .move (.tmp 13), 3, "laws.go:665", #[⟨18, .guard⟩], some (18, false)⟩
abbrev q479 : Oper := ⟨some 125, .indexAddr 36 (.tmp 123) (.tmp 124), 0, "laws.go:665", #[⟨19, .data⟩, ⟨20, .data⟩, ⟨18, .guard⟩], some (18, false)⟩
abbrev q480 : Oper := ⟨some 126, .fieldAddr 48 (.tmp 125) 1, 0, "laws.go:665", #[⟨21, .data⟩, ⟨18, .guard⟩], some (18, false)⟩
abbrev q481 : Oper := ⟨some 127, .fieldAddr 33 (.tmp 126) 2, 0, "laws.go:665", #[⟨22, .data⟩, ⟨18, .guard⟩], some (18, false)⟩
abbrev q482 : Oper := ⟨some 128, .load 3 (.tmp 127), 3, "laws.go:665", #[⟨23, .data⟩, ⟨18, .guard⟩], some (18, false)⟩
abbrev q483 : Oper := ⟨some 129, .fieldAddr 31 (.tmp 3) 4, 0, "laws.go:665", #[⟨18, .guard⟩], some (18, false)⟩
abbrev q484 : Oper := ⟨some 130, .load 29 (.tmp 129), 29, "laws.go:665", #[⟨25, .data⟩, ⟨18, .guard⟩], some (18, false)⟩
abbrev q485 : Oper := ⟨some 131, .move (.tmp 10), 3, "laws.go:665", #[⟨18, .guard⟩], some (18, false)⟩
abbrev q486 : Oper := ⟨some 132, .move (.tmp 14), 3, "laws.go:665", #[⟨18, .guard⟩], some (18, false)⟩
abbrev q487 : Oper := ⟨some 133, .call ⟨.value (.func 18), #[.tmp 130, .tmp 131, .tmp 132], #[29, 3, 3]⟩, 3, "laws.go:665", #[⟨26, .data⟩, ⟨27, .data⟩, ⟨28, .data⟩, ⟨18, .chain⟩, ⟨18, .guard⟩], some (18, false)⟩
abbrev q488 : Oper := ⟨some 134, .binOp .neq 3 (.tmp 128) (.tmp 133) 3, 4, "laws.go:665", #[⟨24, .data⟩, ⟨29, .data⟩, ⟨18, .guard⟩], some (18, false)⟩
abbrev q489 : Oper := ⟨some 135, .pick (.tmp 122) (.const (.bool true)) (.tmp 134), 4, "laws.go:665", #[⟨18, .data⟩, ⟨30, .data⟩], none⟩
abbrev q490 : Oper := ⟨some 136, .move (.tmp 135), 4, "laws.go:665", #[⟨31, .data⟩, ⟨29, .chain⟩], none⟩
abbrev q491 : Oper := ⟨some 137, .move (.tmp 7), 36, "laws.go:665", #[⟨32, .guard⟩], some (32, false)⟩
abbrev q492 : Oper := ⟨some 138, .move (.tmp 13), 3, "laws.go:665", #[⟨32, .guard⟩], some (32, false)⟩
abbrev q493 : Oper := ⟨some 139, .indexAddr 36 (.tmp 137) (.tmp 138), 0, "laws.go:665", #[⟨33, .data⟩, ⟨34, .data⟩, ⟨32, .guard⟩], some (32, false)⟩
abbrev q494 : Oper := ⟨some 140, .fieldAddr 48 (.tmp 139) 1, 0, "laws.go:665", #[⟨35, .data⟩, ⟨32, .guard⟩], some (32, false)⟩
abbrev q495 : Oper := ⟨some 141, .fieldAddr 33 (.tmp 140) 0, 0, "laws.go:665", #[⟨36, .data⟩, ⟨32, .guard⟩], some (32, false)⟩
abbrev q496 : Oper := ⟨some 142, .load 3 (.tmp 141), 3, "laws.go:665", #[⟨37, .data⟩, ⟨32, .guard⟩], some (32, false)⟩
abbrev q497 : Oper := ⟨some 143, .fieldAddr 33 (.tmp 5) 0, 0, "laws.go:665", #[⟨32, .guard⟩], some (32, false)⟩
abbrev q498 : Oper := ⟨some 144, .load 3 (.tmp 143), 3, "laws.go:665", #[⟨39, .data⟩, ⟨32, .guard⟩], some (32, false)⟩
abbrev q499 : Oper := ⟨some 145, .binOp .neq 3 (.tmp 142) (.tmp 144) 3, 4, "laws.go:665", #[⟨38, .data⟩, ⟨40, .data⟩, ⟨32, .guard⟩], some (32, false)⟩
abbrev q500 : Oper := ⟨some 146, .pick (.tmp 136) (.const (.bool true)) (.tmp 145), 4, "laws.go:665", #[⟨32, .data⟩, ⟨41, .data⟩], none⟩
abbrev q501 : Oper := ⟨some 147, .move (.tmp 146), 4, "laws.go:665", #[⟨42, .data⟩, ⟨32, .chain⟩], none⟩
abbrev q502 : Oper := ⟨some 148, .move (.tmp 7), 36, "laws.go:665", #[⟨43, .guard⟩], some (43, false)⟩
abbrev q503 : Oper := ⟨some 149, .move (.tmp 13), 3, "laws.go:665", #[⟨43, .guard⟩], some (43, false)⟩
abbrev q504 : Oper := ⟨some 150, .indexAddr 36 (.tmp 148) (.tmp 149), 0, "laws.go:665", #[⟨44, .data⟩, ⟨45, .data⟩, ⟨43, .guard⟩], some (43, false)⟩
abbrev q505 : Oper := ⟨some 151, .fieldAddr 48 (.tmp 150) 1, 0, "laws.go:665", #[⟨46, .data⟩, ⟨43, .guard⟩], some (43, false)⟩
abbrev q506 : Oper := ⟨some 152, .fieldAddr 33 (.tmp 151) 1, 0, "laws.go:665", #[⟨47, .data⟩, ⟨43, .guard⟩], some (43, false)⟩
abbrev q507 : Oper := ⟨some 153, .load 3 (.tmp 152), 3, "laws.go:665", #[⟨48, .data⟩, ⟨43, .guard⟩], some (43, false)⟩
abbrev q508 : Oper := ⟨some 154, .fieldAddr 33 (.tmp 5) 1, 0, "laws.go:665", #[⟨43, .guard⟩], some (43, false)⟩
abbrev q509 : Oper := ⟨some 155, .load 3 (.tmp 154), 3, "laws.go:665", #[⟨50, .data⟩, ⟨43, .guard⟩], some (43, false)⟩
abbrev q510 : Oper := ⟨some 156, .binOp .neq 3 (.tmp 153) (.tmp 155) 3, 4, "laws.go:665", #[⟨49, .data⟩, ⟨51, .data⟩, ⟨43, .guard⟩], some (43, false)⟩
abbrev q511 : Oper := ⟨some 157, .pick (.tmp 147) (.const (.bool true)) (.tmp 156), 4, "laws.go:665", #[⟨43, .data⟩, ⟨52, .data⟩], none⟩
abbrev q512 : Oper := ⟨some 158, .move (.tmp 157), 4, "laws.go:665", #[⟨53, .data⟩, ⟨43, .chain⟩], none⟩
abbrev q513 : Oper := ⟨some 159, .move (.tmp 7), 36, "laws.go:665", #[⟨54, .guard⟩], some (54, false)⟩
abbrev q514 : Oper := ⟨some 160, .move (.tmp 13), 3, "laws.go:665", #[⟨54, .guard⟩], some (54, false)⟩
abbrev q515 : Oper := ⟨some 161, .indexAddr 36 (.tmp 159) (.tmp 160), 0, "laws.go:665", #[⟨55, .data⟩, ⟨56, .data⟩, ⟨54, .guard⟩], some (54, false)⟩
abbrev q516 : Oper := ⟨some 162, .fieldAddr 48 (.tmp 161) 1, 0, "laws.go:665", #[⟨57, .data⟩, ⟨54, .guard⟩], some (54, false)⟩
abbrev q517 : Oper := ⟨some 163, .fieldAddr 33 (.tmp 162) 3, 0, "laws.go:665", #[⟨58, .data⟩, ⟨54, .guard⟩], some (54, false)⟩
abbrev q518 : Oper := ⟨some 164, .load 22 (.tmp 163), 22, "laws.go:665", #[⟨59, .data⟩, ⟨54, .guard⟩], some (54, false)⟩
abbrev q519 : Oper := ⟨some 165, .fieldAddr 33 (.tmp 5) 3, 0, "laws.go:665", #[⟨54, .guard⟩], some (54, false)⟩
abbrev q520 : Oper := ⟨some 166, .load 22 (.tmp 165), 22, "laws.go:665", #[⟨61, .data⟩, ⟨54, .guard⟩], some (54, false)⟩
abbrev q521 : Oper := ⟨some 167, .call ⟨.value (.func 19), #[.tmp 164, .tmp 166], #[22, 22]⟩, 4, "laws.go:665", #[⟨60, .data⟩, ⟨62, .data⟩, ⟨54, .chain⟩, ⟨54, .guard⟩], some (54, false)⟩
abbrev q522 : Oper := ⟨some 168, .unOp .not 4 (.tmp 167), 4, "laws.go:665", #[⟨63, .data⟩, ⟨54, .guard⟩], some (54, false)⟩
abbrev q523 : Oper := ⟨some 169, .pick (.tmp 158) (.const (.bool true)) (.tmp 168), 4, "laws.go:665", #[⟨54, .data⟩, ⟨64, .data⟩], none⟩
abbrev q524 : Oper := ⟨some 170, .move (.tmp 169), 4, "laws.go:665", #[⟨65, .data⟩, ⟨63, .chain⟩], none⟩
abbrev q525 : Oper := ⟨some 171, .move (.tmp 13), 3, "laws.go:665", #[⟨66, .guard⟩], some (66, false)⟩
abbrev q526 : Oper := ⟨some 172, .binOp .gtr 3 (.tmp 171) (.const (.int .i64 0)) 3, 4, "laws.go:665", #[⟨67, .data⟩, ⟨66, .guard⟩], some (66, false)⟩
abbrev q527 : Oper := ⟨some 173, .move (.tmp 172), 4, "laws.go:665", #[⟨68, .data⟩, ⟨66, .chain⟩, ⟨66, .guard⟩], some (66, false)⟩
abbrev q528 : Oper := ⟨some 174, .move (.tmp 7), 36, "laws.go:665", #[⟨69, .guard⟩], some (69, true)⟩
abbrev q529 : Oper := ⟨some 175, .move (.tmp 13), 3, "laws.go:665", #[⟨69, .guard⟩], some (69, true)⟩
abbrev q530 : Oper := ⟨some 176, .binOp .sub 3 (.tmp 175) (.const (.int .i64 1)) 3, 3, "laws.go:665", #[⟨71, .data⟩, ⟨69, .guard⟩], some (69, true)⟩
abbrev q531 : Oper := ⟨some 177, .indexAddr 36 (.tmp 174) (.tmp 176), 0, "laws.go:665", #[⟨70, .data⟩, ⟨72, .data⟩, ⟨69, .guard⟩], some (69, true)⟩
abbrev q532 : Oper := ⟨some 178, .fieldAddr 48 (.tmp 177) 0, 0, "laws.go:665", #[⟨73, .data⟩, ⟨69, .guard⟩], some (69, true)⟩
abbrev q533 : Oper := ⟨some 179, .load 3 (.tmp 178), 3, "laws.go:665", #[⟨74, .data⟩, ⟨69, .guard⟩], some (69, true)⟩
abbrev q534 : Oper := ⟨some 180, .move (.tmp 14), 3, "laws.go:665", #[⟨69, .guard⟩], some (69, true)⟩
abbrev q535 : Oper := ⟨some 181, .binOp .geq 3 (.tmp 179) (.tmp 180) 3, 4, "laws.go:665", #[⟨75, .data⟩, ⟨76, .data⟩, ⟨69, .guard⟩], some (69, true)⟩
abbrev q536 : Oper := ⟨some 182, .pick (.tmp 173) (.tmp 181) (.const (.bool false)), 4, "laws.go:665", #[⟨69, .data⟩, ⟨77, .data⟩, ⟨66, .guard⟩], some (66, false)⟩
abbrev q537 : Oper := ⟨some 183, .pick (.tmp 170) (.const (.bool true)) (.tmp 182), 4, "laws.go:665", #[⟨66, .data⟩, ⟨78, .data⟩], none⟩

set_option maxRecDepth 100000 in
set_option maxHeartbeats 32000000 in
theorem sent_reg0 {s0 s1 s2 s6 s8 s9 s11 s15 s16 s17 s18 s19 s20 s21 s22 s23 s24 s25 s26 s27 s28 s29 s30 s31 s32 s33 s34 s35 s36 s37 s38 s39 s40 s41 s42 s43 s44 s45 s46 s47 s48 s49 s50 s51 s52 s53 s54 s55 s56 s57 s58 s59 s60 s61 s62 s63 s64 s65 s66 s67 s68 s69 s70 s71 s72 s73 s74 s75 s76 s77 s78 s79 s80 s81 s82 s83 s84 s85 s86 s87 s88 s89 s90 s91 s92 s93 s94 s95 s96 s97 s98 s99 s100 s101 s102 s103 s104 s105 s106 s107 s108 s109 s110 s111 s112 s113 s114 s115 s116 s117 s118 s119 s120 s121 s122 s123 s124 s125 s126 s127 s128 s129 s130 s131 s132 s133 s134 s135 s136 s137 s138 s139 s140 s141 s142 s143 s144 s145 s146 s147 s148 s149 s150 s151 s152 s153 s154 s155 s156 s157 s158 s159 s160 s161 s162 s163 s164 s165 s166 s167 s168 s169 s170 s171 s172 s173 s174 s175 s176 s177 s178 s179 s180 s181 s182 s183 s184 s185 s186 s187 s188 s189 s190 s191 s192 s193 s194 s195 s196 s197 s198 s199 s200 s201 s202 s203 s204 s205 s206 s207 s208 s209 s210 s211 s212 s213 s214 s215 s216 s217 s218 s219 s220 s221 s222 s223 s224 s225 s226 s227 : Value} {Q : Exit → Act → World → Prop} {wr : World} {a : Option Addr} {m c : Nat} {fa : Option Addr} {fn fc : Nat} {ra : Option Addr} {rn rc : Nat} {oa : Option Addr} {on oc : Nat} {B : BR} {Bb Vf xb xo q cpX k j i : Nat} {id SB sg fd fs ft : Int} {ao : Option Addr} {nf cf : Nat} {zs : List Int} {x : OI}
  (kB' : wr.heap[Bb]? = some (.cells #[.int .i64 B.id, .string B.name, .slice a m c, .slice fa fn fc, .slice ra rn rc, .slice oa on oc, .int .i64 B.ticks, .int .i64 B.parse, .int .i64 B.word, .int .i64 B.drops, .int .i64 B.vers] 31)) (kF' : wr.heap[Vf]? = some (.cells #[.int .i64 fd, .int .i64 fs, .int .i64 ft, .slice ao nf cf] 33)) (HC : Hid (∀ W, Below wr.heap.size wr W → (W.cell? ⟨xb, xo + i * 5, none⟩ = some (.int .i64 (j : Int)) ∧ W.cell? ⟨xb, xo + i * 5 + 1, none⟩ = some (.int .i64 fd) ∧ W.cell? ⟨xb, xo + i * 5 + 2, none⟩ = some (.int .i64 fs) ∧ W.cell? ⟨xb, xo + i * 5 + 3, none⟩ = some (.int .i64 sg) ∧ W.cell? ⟨xb, xo + i * 5 + 4, none⟩ = some (.slice x.a x.n x.c)))) (hrows : GRow vrowF wr ra rn rc B.v.rows) (rFr : Row wr ao nf cf zs) (rx : Row wr x.a x.n x.c zs) (hj7 : j ≤ 7) (hjs : bitOf SB (j : Int) = true) (hje : bitOf (egressOf B.v id) (j : Int) = true) (hjk : ¬ (j : Int) = (k : Int)) (hRb : ∀ r ∈ B.v.rows, r.Rng ∧ 0 ≤ r.b ∧ r.b ≤ 63) (HSG : Hid (shownTag B.v id (j : Int) = sg)) (i1 : (0 : Int) ≤ (i : Int)) (i2 : (i : Int) < (q : Int)) (hi0 : ¬ 0 < i) (hQp : ∀ c (a : Act) (o : Option Nat) (v : Value) w, Q (.panic c) (a.put o v) w → Q (.panic c) a w)
  (h : ∀ (t104 t105 t106 t107 t108 t109 t110 t111 t112 t113 t114 t115 t116 t117 t118 t119 t120 t121 t122 t123 t124 t125 t126 t127 t128 t129 t130 t131 t132 t133 t134 t135 t136 t137 t138 t139 t140 t141 t142 t143 t144 t145 t146 t147 t148 t149 t150 t151 t152 t153 t154 t155 t156 t157 t158 t159 t160 t161 t162 t163 t164 t165 t166 t167 t168 t169 t170 t171 t172 t173 t174 t175 t176 t177 t178 t179 t180 t181 t182 : Value) (w' : World), Below wr.heap.size wr w' → Q .normal { tmps := #[s0, s1, s2, .pointer (some ⟨Bb, 0, none⟩), .int .i64 (k : Int), .pointer (some ⟨Vf, 0, none⟩), s6, .slice (some ⟨xb, xo, none⟩) q cpX, s8, s9, .int .i64 id, s11, .int .i64 SB, .int .i64 (i : Int), .int .i64 (j : Int), s15, s16, s17, s18, s19, s20, s21, s22, s23, s24, s25, s26, s27, s28, s29, s30, s31, s32, s33, s34, s35, s36, s37, s38, s39, s40, s41, s42, s43, s44, s45, s46, s47, s48, s49, s50, s51, s52, s53, s54, s55, s56, s57, s58, s59, s60, s61, s62, s63, s64, s65, s66, s67, s68, s69, s70, s71, s72, s73, s74, s75, s76, s77, s78, s79, s80, s81, s82, s83, s84, s85, s86, s87, s88, s89, s90, s91, s92, s93, s94, s95, s96, s97, s98, s99, s100, s101, s102, s103, t104, t105, t106, t107, t108, t109, t110, t111, t112, t113, t114, t115, t116, t117, t118, t119, t120, t121, t122, t123, t124, t125, t126, t127, t128, t129, t130, t131, t132, t133, t134, t135, t136, t137, t138, t139, t140, t141, t142, t143, t144, t145, t146, t147, t148, t149, t150, t151, t152, t153, t154, t155, t156, t157, t158, t159, t160, t161, t162, t163, t164, t165, t166, t167, t168, t169, t170, t171, t172, t173, t174, t175, t176, t177, t178, t179, t180, t181, t182, .bool false, s184, s185, s186, s187, s188, s189, s190, s191, s192, s193, s194, s195, s196, s197, s198, s199, s200, s201, s202, s203, s204, s205, s206, s207, s208, s209, s210, s211, s212, s213, s214, s215, s216, s217, s218, s219, s220, s221, s222, s223, s224, s225, s226, s227], defers := [] } w') :
  Code.wp Tryz.prog (Code.region 16 (([⟨some 104, .move (.tmp 14), 3, "laws.go:665", #[], none⟩, ⟨some 105, .move (.tmp 4), 3, "laws.go:665", #[], none⟩, ⟨some 106, .binOp .eql 3 (.tmp 104) (.tmp 105) 3, 4, "laws.go:665", #[⟨0, .data⟩, ⟨1, .data⟩], none⟩, ⟨some 107, .move (.tmp 106), 4, "laws.go:665", #[⟨2, .data⟩], none⟩, ⟨some 108, .move (.tmp 12), 3, "laws.go:665", #[⟨3, .guard⟩], some (3, false)⟩, ⟨some 109, .move (.tmp 14), 3, "laws.go:665", #[⟨3, .guard⟩], some (3, false)⟩, ⟨some 110, .call ⟨.value (.func 15), #[.tmp 108, .tmp 109], #[3, 3]⟩, 4, "laws.go:665", #[⟨4, .data⟩, ⟨5, .data⟩, ⟨3, .chain⟩, ⟨3, .guard⟩], some (3, false)⟩, ⟨some 111, .unOp .not 4 (.tmp 110), 4, "laws.go:665", #[⟨6, .data⟩, ⟨3, .guard⟩], some (3, false)⟩, ⟨some 112, .pick (.tmp 107) (.const (.bool true)) (.tmp 111), 4, "laws.go:665", #[⟨3, .data⟩, ⟨7, .data⟩], none⟩, ⟨some 113, .move (.tmp 112), 4, "laws.go:665", #[⟨8, .data⟩, ⟨6, .chain⟩], none⟩, ⟨some 114, .fieldAddr 31 (.tmp 3) 4, 0, "laws.go:665", #[⟨9, .guard⟩], some (9, false)⟩, ⟨some 115, .load 29 (.tmp 114), 29, "laws.go:665", #[⟨10, .data⟩, ⟨9, .guard⟩], some (9, false)⟩, ⟨some 116, .move (.tmp 10), 3, "laws.go:665", #[⟨9, .guard⟩], some (9, false)⟩, ⟨some 117, .call ⟨.value (.func 17), #[.tmp 115, .tmp 116], #[29, 3]⟩, 3, "laws.go:665", #[⟨11, .data⟩, ⟨12, .data⟩, ⟨9, .chain⟩, ⟨9, .guard⟩], some (9, false)⟩, ⟨some 118, .move (.tmp 14), 3, "laws.go:665", #[⟨9, .guard⟩], some (9, false)⟩, ⟨some 119, .call ⟨.value (.func 15), #[.tmp 117, .tmp 118], #[3, 3]⟩, 4, "laws.go:665", #[⟨13, .data⟩, ⟨14, .data⟩, ⟨13, .chain⟩, ⟨9, .guard⟩], some (9, false)⟩, ⟨some 120, .unOp .not 4 (.tmp 119), 4, "laws.go:665", #[⟨15, .data⟩, ⟨9, .guard⟩], some (9, false)⟩, ⟨some 121, .pick (.tmp 113) (.const (.bool true)) (.tmp 120), 4, "laws.go:665", #[⟨9, .data⟩, ⟨16, .data⟩], none⟩, ⟨some 122, .move (.tmp 121), 4, "laws.go:665", #[⟨17, .data⟩, ⟨15, .chain⟩], none⟩, ⟨some 123, .move (.tmp 7), 36, "laws.go:665", #[⟨18, .guard⟩], some (18, false)⟩, ⟨some 124, .move (.tmp 13), 3, "laws.go:665", #[⟨18, .guard⟩], some (18, false)⟩, ⟨some 125, .indexAddr 36 (.tmp 123) (.tmp 124), 0, "laws.go:665", #[⟨19, .data⟩, ⟨20, .data⟩, ⟨18, .guard⟩], some (18, false)⟩, ⟨some 126, .fieldAddr 48 (.tmp 125) 1, 0, "laws.go:665", #[⟨21, .data⟩, ⟨18, .guard⟩], some (18, false)⟩, ⟨some 127, .fieldAddr 33 (.tmp 126) 2, 0, "laws.go:665", #[⟨22, .data⟩, ⟨18, .guard⟩], some (18, false)⟩, ⟨some 128, .load 3 (.tmp 127), 3, "laws.go:665", #[⟨23, .data⟩, ⟨18, .guard⟩], some (18, false)⟩, ⟨some 129, .fieldAddr 31 (.tmp 3) 4, 0, "laws.go:665", #[⟨18, .guard⟩], some (18, false)⟩, ⟨some 130, .load 29 (.tmp 129), 29, "laws.go:665", #[⟨25, .data⟩, ⟨18, .guard⟩], some (18, false)⟩, ⟨some 131, .move (.tmp 10), 3, "laws.go:665", #[⟨18, .guard⟩], some (18, false)⟩, ⟨some 132, .move (.tmp 14), 3, "laws.go:665", #[⟨18, .guard⟩], some (18, false)⟩, ⟨some 133, .call ⟨.value (.func 18), #[.tmp 130, .tmp 131, .tmp 132], #[29, 3, 3]⟩, 3, "laws.go:665", #[⟨26, .data⟩, ⟨27, .data⟩, ⟨28, .data⟩, ⟨18, .chain⟩, ⟨18, .guard⟩], some (18, false)⟩, ⟨some 134, .binOp .neq 3 (.tmp 128) (.tmp 133) 3, 4, "laws.go:665", #[⟨24, .data⟩, ⟨29, .data⟩, ⟨18, .guard⟩], some (18, false)⟩, ⟨some 135, .pick (.tmp 122) (.const (.bool true)) (.tmp 134), 4, "laws.go:665", #[⟨18, .data⟩, ⟨30, .data⟩], none⟩, ⟨some 136, .move (.tmp 135), 4, "laws.go:665", #[⟨31, .data⟩, ⟨29, .chain⟩], none⟩, ⟨some 137, .move (.tmp 7), 36, "laws.go:665", #[⟨32, .guard⟩], some (32, false)⟩, ⟨some 138, .move (.tmp 13), 3, "laws.go:665", #[⟨32, .guard⟩], some (32, false)⟩, ⟨some 139, .indexAddr 36 (.tmp 137) (.tmp 138), 0, "laws.go:665", #[⟨33, .data⟩, ⟨34, .data⟩, ⟨32, .guard⟩], some (32, false)⟩, ⟨some 140, .fieldAddr 48 (.tmp 139) 1, 0, "laws.go:665", #[⟨35, .data⟩, ⟨32, .guard⟩], some (32, false)⟩, ⟨some 141, .fieldAddr 33 (.tmp 140) 0, 0, "laws.go:665", #[⟨36, .data⟩, ⟨32, .guard⟩], some (32, false)⟩, ⟨some 142, .load 3 (.tmp 141), 3, "laws.go:665", #[⟨37, .data⟩, ⟨32, .guard⟩], some (32, false)⟩, ⟨some 143, .fieldAddr 33 (.tmp 5) 0, 0, "laws.go:665", #[⟨32, .guard⟩], some (32, false)⟩] : List Oper).append [⟨some 144, .load 3 (.tmp 143), 3, "laws.go:665", #[⟨39, .data⟩, ⟨32, .guard⟩], some (32, false)⟩, ⟨some 145, .binOp .neq 3 (.tmp 142) (.tmp 144) 3, 4, "laws.go:665", #[⟨38, .data⟩, ⟨40, .data⟩, ⟨32, .guard⟩], some (32, false)⟩, ⟨some 146, .pick (.tmp 136) (.const (.bool true)) (.tmp 145), 4, "laws.go:665", #[⟨32, .data⟩, ⟨41, .data⟩], none⟩, ⟨some 147, .move (.tmp 146), 4, "laws.go:665", #[⟨42, .data⟩, ⟨32, .chain⟩], none⟩, ⟨some 148, .move (.tmp 7), 36, "laws.go:665", #[⟨43, .guard⟩], some (43, false)⟩, ⟨some 149, .move (.tmp 13), 3, "laws.go:665", #[⟨43, .guard⟩], some (43, false)⟩, ⟨some 150, .indexAddr 36 (.tmp 148) (.tmp 149), 0, "laws.go:665", #[⟨44, .data⟩, ⟨45, .data⟩, ⟨43, .guard⟩], some (43, false)⟩, ⟨some 151, .fieldAddr 48 (.tmp 150) 1, 0, "laws.go:665", #[⟨46, .data⟩, ⟨43, .guard⟩], some (43, false)⟩, ⟨some 152, .fieldAddr 33 (.tmp 151) 1, 0, "laws.go:665", #[⟨47, .data⟩, ⟨43, .guard⟩], some (43, false)⟩, ⟨some 153, .load 3 (.tmp 152), 3, "laws.go:665", #[⟨48, .data⟩, ⟨43, .guard⟩], some (43, false)⟩, ⟨some 154, .fieldAddr 33 (.tmp 5) 1, 0, "laws.go:665", #[⟨43, .guard⟩], some (43, false)⟩, ⟨some 155, .load 3 (.tmp 154), 3, "laws.go:665", #[⟨50, .data⟩, ⟨43, .guard⟩], some (43, false)⟩, ⟨some 156, .binOp .neq 3 (.tmp 153) (.tmp 155) 3, 4, "laws.go:665", #[⟨49, .data⟩, ⟨51, .data⟩, ⟨43, .guard⟩], some (43, false)⟩, ⟨some 157, .pick (.tmp 147) (.const (.bool true)) (.tmp 156), 4, "laws.go:665", #[⟨43, .data⟩, ⟨52, .data⟩], none⟩, ⟨some 158, .move (.tmp 157), 4, "laws.go:665", #[⟨53, .data⟩, ⟨43, .chain⟩], none⟩, ⟨some 159, .move (.tmp 7), 36, "laws.go:665", #[⟨54, .guard⟩], some (54, false)⟩, ⟨some 160, .move (.tmp 13), 3, "laws.go:665", #[⟨54, .guard⟩], some (54, false)⟩, ⟨some 161, .indexAddr 36 (.tmp 159) (.tmp 160), 0, "laws.go:665", #[⟨55, .data⟩, ⟨56, .data⟩, ⟨54, .guard⟩], some (54, false)⟩, ⟨some 162, .fieldAddr 48 (.tmp 161) 1, 0, "laws.go:665", #[⟨57, .data⟩, ⟨54, .guard⟩], some (54, false)⟩, ⟨some 163, .fieldAddr 33 (.tmp 162) 3, 0, "laws.go:665", #[⟨58, .data⟩, ⟨54, .guard⟩], some (54, false)⟩, ⟨some 164, .load 22 (.tmp 163), 22, "laws.go:665", #[⟨59, .data⟩, ⟨54, .guard⟩], some (54, false)⟩, ⟨some 165, .fieldAddr 33 (.tmp 5) 3, 0, "laws.go:665", #[⟨54, .guard⟩], some (54, false)⟩, ⟨some 166, .load 22 (.tmp 165), 22, "laws.go:665", #[⟨61, .data⟩, ⟨54, .guard⟩], some (54, false)⟩, ⟨some 167, .call ⟨.value (.func 19), #[.tmp 164, .tmp 166], #[22, 22]⟩, 4, "laws.go:665", #[⟨60, .data⟩, ⟨62, .data⟩, ⟨54, .chain⟩, ⟨54, .guard⟩], some (54, false)⟩, ⟨some 168, .unOp .not 4 (.tmp 167), 4, "laws.go:665", #[⟨63, .data⟩, ⟨54, .guard⟩], some (54, false)⟩, ⟨some 169, .pick (.tmp 158) (.const (.bool true)) (.tmp 168), 4, "laws.go:665", #[⟨54, .data⟩, ⟨64, .data⟩], none⟩, ⟨some 170, .move (.tmp 169), 4, "laws.go:665", #[⟨65, .data⟩, ⟨63, .chain⟩], none⟩, ⟨some 171, .move (.tmp 13), 3, "laws.go:665", #[⟨66, .guard⟩], some (66, false)⟩, ⟨some 172, .binOp .gtr 3 (.tmp 171) (.const (.int .i64 0)) 3, 4, "laws.go:665", #[⟨67, .data⟩, ⟨66, .guard⟩], some (66, false)⟩, ⟨some 173, .move (.tmp 172), 4, "laws.go:665", #[⟨68, .data⟩, ⟨66, .chain⟩, ⟨66, .guard⟩], some (66, false)⟩, ⟨some 174, .move (.tmp 7), 36, "laws.go:665", #[⟨69, .guard⟩], some (69, true)⟩, ⟨some 175, .move (.tmp 13), 3, "laws.go:665", #[⟨69, .guard⟩], some (69, true)⟩, ⟨some 176, .binOp .sub 3 (.tmp 175) (.const (.int .i64 1)) 3, 3, "laws.go:665", #[⟨71, .data⟩, ⟨69, .guard⟩], some (69, true)⟩, ⟨some 177, .indexAddr 36 (.tmp 174) (.tmp 176), 0, "laws.go:665", #[⟨70, .data⟩, ⟨72, .data⟩, ⟨69, .guard⟩], some (69, true)⟩, ⟨some 178, .fieldAddr 48 (.tmp 177) 0, 0, "laws.go:665", #[⟨73, .data⟩, ⟨69, .guard⟩], some (69, true)⟩, ⟨some 179, .load 3 (.tmp 178), 3, "laws.go:665", #[⟨74, .data⟩, ⟨69, .guard⟩], some (69, true)⟩, ⟨some 180, .move (.tmp 14), 3, "laws.go:665", #[⟨69, .guard⟩], some (69, true)⟩, ⟨some 181, .binOp .geq 3 (.tmp 179) (.tmp 180) 3, 4, "laws.go:665", #[⟨75, .data⟩, ⟨76, .data⟩, ⟨69, .guard⟩], some (69, true)⟩, ⟨some 182, .pick (.tmp 173) (.tmp 181) (.const (.bool false)), 4, "laws.go:665", #[⟨69, .data⟩, ⟨77, .data⟩, ⟨66, .guard⟩], some (66, false)⟩, ⟨some 183, .pick (.tmp 170) (.const (.bool true)) (.tmp 182), 4, "laws.go:665", #[⟨66, .data⟩, ⟨78, .data⟩], none⟩]).toArray true) Q { tmps := #[s0, s1, s2, .pointer (some ⟨Bb, 0, none⟩), .int .i64 (k : Int), .pointer (some ⟨Vf, 0, none⟩), s6, .slice (some ⟨xb, xo, none⟩) q cpX, s8, s9, .int .i64 id, s11, .int .i64 SB, .int .i64 (i : Int), .int .i64 (j : Int), s15, s16, s17, s18, s19, s20, s21, s22, s23, s24, s25, s26, s27, s28, s29, s30, s31, s32, s33, s34, s35, s36, s37, s38, s39, s40, s41, s42, s43, s44, s45, s46, s47, s48, s49, s50, s51, s52, s53, s54, s55, s56, s57, s58, s59, s60, s61, s62, s63, s64, s65, s66, s67, s68, s69, s70, s71, s72, s73, s74, s75, s76, s77, s78, s79, s80, s81, s82, s83, s84, s85, s86, s87, s88, s89, s90, s91, s92, s93, s94, s95, s96, s97, s98, s99, s100, s101, s102, s103, s104, s105, s106, s107, s108, s109, s110, s111, s112, s113, s114, s115, s116, s117, s118, s119, s120, s121, s122, s123, s124, s125, s126, s127, s128, s129, s130, s131, s132, s133, s134, s135, s136, s137, s138, s139, s140, s141, s142, s143, s144, s145, s146, s147, s148, s149, s150, s151, s152, s153, s154, s155, s156, s157, s158, s159, s160, s161, s162, s163, s164, s165, s166, s167, s168, s169, s170, s171, s172, s173, s174, s175, s176, s177, s178, s179, s180, s181, s182, s183, s184, s185, s186, s187, s188, s189, s190, s191, s192, s193, s194, s195, s196, s197, s198, s199, s200, s201, s202, s203, s204, s205, s206, s207, s208, s209, s210, s211, s212, s213, s214, s215, s216, s217, s218, s219, s220, s221, s222, s223, s224, s225, s226, s227], defers := [] } wr := by
 have vv : Below wr.heap.size wr wr.drew := gr_drew (Below.refl _ _)
 refine wp_region_held_drew (S := (fun W => (W.cell? ⟨Bb, 0, none⟩ = some (.int .i64 B.id) ∧ W.cell? ⟨Bb, 1, none⟩ = some (.string B.name) ∧ W.cell? ⟨Bb, 2, none⟩ = some (.slice a m c) ∧ W.cell? ⟨Bb, 3, none⟩ = some (.slice fa fn fc) ∧ W.cell? ⟨Bb, 4, none⟩ = some (.slice ra rn rc) ∧ W.cell? ⟨Bb, 5, none⟩ = some (.slice oa on oc) ∧ W.cell? ⟨Bb, 6, none⟩ = some (.int .i64 B.ticks) ∧ W.cell? ⟨Bb, 7, none⟩ = some (.int .i64 B.parse) ∧ W.cell? ⟨Bb, 8, none⟩ = some (.int .i64 B.word) ∧ W.cell? ⟨Bb, 9, none⟩ = some (.int .i64 B.drops) ∧ W.cell? ⟨Bb, 10, none⟩ = some (.int .i64 B.vers)) ∧ (W.cell? ⟨Vf, 0, none⟩ = some (.int .i64 fd) ∧ W.cell? ⟨Vf, 1, none⟩ = some (.int .i64 fs) ∧ W.cell? ⟨Vf, 2, none⟩ = some (.int .i64 ft) ∧ W.cell? ⟨Vf, 3, none⟩ = some (.slice ao nf cf)) ∧ (W.cell? ⟨xb, xo + i * 5, none⟩ = some (.int .i64 (j : Int)) ∧ W.cell? ⟨xb, xo + i * 5 + 1, none⟩ = some (.int .i64 fd) ∧ W.cell? ⟨xb, xo + i * 5 + 2, none⟩ = some (.int .i64 fs) ∧ W.cell? ⟨xb, xo + i * 5 + 3, none⟩ = some (.int .i64 sg) ∧ W.cell? ⟨xb, xo + i * 5 + 4, none⟩ = some (.slice x.a x.n x.c)))) (by kernel_rfl) (⟨cells11 (kept_block kB' vv), (cells4 (kept_block kF' vv)).1, HC.out _ vv⟩) (fun hHeld => ?_)
 refine wpAnyH_take (i := 0) (oi := ⟨some 104, .move (.tmp 14), 3, "laws.go:665", #[], none⟩) (v := ?_) rfl (by kernel_rfl) (by kernel_rfl) (by kernel_rfl) (fun _ _ _ h => hQp _ _ _ _ _ h) (Or.inl ⟨by rfl, ?_⟩) (by assumption) ?_
 rotate_left
 ·(intro _ h; (try dsimp only at h); go_simp; try with_reducible rfl)
 simp only [Act.put, lA, lB, lC]
 refine wpAnyH_take (i := 1) (oi := ⟨some 105, .move (.tmp 4), 3, "laws.go:665", #[], none⟩) (v := ?_) rfl (by kernel_rfl) (by kernel_rfl) (by kernel_rfl) (fun _ _ _ h => hQp _ _ _ _ _ h) (Or.inl ⟨by rfl, ?_⟩) (by assumption) ?_
 rotate_left
 ·(intro _ h; (try dsimp only at h); go_simp; try with_reducible rfl)
 simp only [Act.put, lA, lB, lC]
 refine wpAnyH_take (i := 2) (oi := ⟨some 106, .binOp .eql 3 (.tmp 104) (.tmp 105) 3, 4, "laws.go:665", #[⟨0, .data⟩, ⟨1, .data⟩], none⟩) (v := .bool false) rfl (by kernel_rfl) (by kernel_rfl) (by kernel_rfl) (fun _ _ _ h => hQp _ _ _ _ _ h) (Or.inl ⟨by rfl, ?_⟩) (by assumption) ?_
 ·(intro wY hSw; (try dsimp only at hSw); go_simp; first | done | omega)
 simp only [Act.put, lA, lB, lC]
 refine wpAnyH_take (i := 3) (oi := ⟨some 107, .move (.tmp 106), 4, "laws.go:665", #[⟨2, .data⟩], none⟩) (v := ?_) rfl (by kernel_rfl) (by kernel_rfl) (by kernel_rfl) (fun _ _ _ h => hQp _ _ _ _ _ h) (Or.inl ⟨by rfl, ?_⟩) (by assumption) ?_
 rotate_left
 ·(intro _ h; (try dsimp only at h); go_simp; try with_reducible rfl)
 simp only [Act.put, lA, lB, lC]
 refine wpAnyH_take (i := 4) (oi := ⟨some 108, .move (.tmp 12), 3, "laws.go:665", #[⟨3, .guard⟩], some (3, false)⟩) (v := ?_) rfl (by kernel_rfl) (by kernel_rfl) (by kernel_rfl) (fun _ _ _ h => hQp _ _ _ _ _ h) (Or.inl ⟨by rfl, ?_⟩) (by assumption) ?_
 rotate_left
 ·(intro _ h; (try dsimp only at h); go_simp; try with_reducible rfl)
 simp only [Act.put, lA, lB, lC]
 refine wpAnyH_take (i := 5) (oi := ⟨some 109, .move (.tmp 14), 3, "laws.go:665", #[⟨3, .guard⟩], some (3, false)⟩) (v := ?_) rfl (by kernel_rfl) (by kernel_rfl) (by kernel_rfl) (fun _ _ _ h => hQp _ _ _ _ _ h) (Or.inl ⟨by rfl, ?_⟩) (by assumption) ?_
 rotate_left
 ·(intro _ h; (try dsimp only at h); go_simp; try with_reducible rfl)
 simp only [Act.put, lA, lB, lC]
 refine tR [6] ?_
 refine AllReadyH.cons (o := q464) rfl (fun K hK => ?_) ?_
 ·go_simp
  refine (lawBit_yes SB j hj7 _ hjs).mono ?_
  rintro e wz ⟨rfl, ez⟩
  obtain rfl := ez.symm
  go_wp2_with fail
  refine hK.out _ _ (⟨cells11 (kept_block kB' vv), (cells4 (kept_block kF' vv)).1, HC.out _ vv⟩) (fun hHeld => ?_)
  clear hK K
  try simp only [Act.put, lA, lB, lC]
  refine wpAnyH_take (i := 7) (oi := ⟨some 111, .unOp .not 4 (.tmp 110), 4, "laws.go:665", #[⟨6, .data⟩, ⟨3, .guard⟩], some (3, false)⟩) (v := ?_) rfl (by kernel_rfl) (by kernel_rfl) (by kernel_rfl) (fun _ _ _ h => hQp _ _ _ _ _ h) (Or.inl ⟨by rfl, ?_⟩) (by assumption) ?_
  rotate_left
  ·(intro _ h; (try dsimp only at h); go_simp; try with_reducible rfl)
  simp only [Act.put, lA, lB, lC]
  refine wpAnyH_take (i := 8) (oi := ⟨some 112, .pick (.tmp 107) (.const (.bool true)) (.tmp 111), 4, "laws.go:665", #[⟨3, .data⟩, ⟨7, .data⟩], none⟩) (v := ?_) rfl (by kernel_rfl) (by kernel_rfl) (by kernel_rfl) (fun _ _ _ h => hQp _ _ _ _ _ h) (Or.inl ⟨by rfl, ?_⟩) (by assumption) ?_
  rotate_left
  ·(intro _ h; (try dsimp only at h); go_simp; try with_reducible rfl)
  simp only [Act.put, lA, lB, lC]
  refine wpAnyH_take (i := 9) (oi := ⟨some 113, .move (.tmp 112), 4, "laws.go:665", #[⟨8, .data⟩, ⟨6, .chain⟩], none⟩) (v := ?_) rfl (by kernel_rfl) (by kernel_rfl) (by kernel_rfl) (fun _ _ _ h => hQp _ _ _ _ _ h) (Or.inl ⟨by rfl, ?_⟩) (by assumption) ?_
  rotate_left
  ·(intro _ h; (try dsimp only at h); go_simp; try with_reducible rfl)
  simp only [Act.put, lA, lB, lC]
  refine wpAnyH_take (i := 10) (oi := ⟨some 114, .fieldAddr 31 (.tmp 3) 4, 0, "laws.go:665", #[⟨9, .guard⟩], some (9, false)⟩) (v := ?_) rfl (by kernel_rfl) (by kernel_rfl) (by kernel_rfl) (fun _ _ _ h => hQp _ _ _ _ _ h) (Or.inl ⟨by rfl, ?_⟩) (by assumption) ?_
  rotate_left
  ·(intro _ h; (try dsimp only at h); go_simp; try with_reducible rfl)
  simp only [Act.put, lA, lB, lC]
  refine wpAnyH_take (i := 11) (oi := ⟨some 115, .load 29 (.tmp 114), 29, "laws.go:665", #[⟨10, .data⟩, ⟨9, .guard⟩], some (9, false)⟩) (v := ?_) rfl (by kernel_rfl) (by kernel_rfl) (by kernel_rfl) (fun _ _ _ h => hQp _ _ _ _ _ h) (Or.inl ⟨by rfl, ?_⟩) (by assumption) ?_
  rotate_left
  ·(intro _ h; (try dsimp only at h); go_simp; try with_reducible rfl)
  simp only [Act.put, lA, lB, lC]
  refine wpAnyH_take (i := 12) (oi := ⟨some 116, .move (.tmp 10), 3, "laws.go:665", #[⟨9, .guard⟩], some (9, false)⟩) (v := ?_) rfl (by kernel_rfl) (by kernel_rfl) (by kernel_rfl) (fun _ _ _ h => hQp _ _ _ _ _ h) (Or.inl ⟨by rfl, ?_⟩) (by assumption) ?_
  rotate_left
  ·(intro _ h; (try dsimp only at h); go_simp; try with_reducible rfl)
  simp only [Act.put, lA, lB, lC]
  refine wpAnyH_take (i := 14) (oi := ⟨some 118, .move (.tmp 14), 3, "laws.go:665", #[⟨9, .guard⟩], some (9, false)⟩) (v := ?_) rfl (by kernel_rfl) (by kernel_rfl) (by kernel_rfl) (fun _ _ _ h => hQp _ _ _ _ _ h) (Or.inl ⟨by rfl, ?_⟩) (by assumption) ?_
  rotate_left
  ·(intro _ h; (try dsimp only at h); go_simp; try with_reducible rfl)
  simp only [Act.put, lA, lB, lC]
  refine tR [13] ?_
  refine AllReadyH.cons (o := q471) rfl (fun K hK => ?_) ?_
  ·go_simp
   refine (implEgress_any ra rn rc oa on oc B.v id _ (hrows.below vv)).mono ?_
   rintro e wt ⟨rfl, hbt⟩
   have vv := gr_trans vv hbt
   clear hbt
   go_wp2_with fail
   refine hK.out _ _ (⟨cells11 (kept_block kB' vv), (cells4 (kept_block kF' vv)).1, HC.out _ vv⟩) (fun hHeld => ?_)
   clear hK K
   try simp only [Act.put, lA, lB, lC]
   refine tR [15] ?_
   refine AllReadyH.cons (o := q473) rfl (fun K hK => ?_) ?_
   ·go_simp
    refine (lawBit_yes (egressOf B.v id) j hj7 _ hje).mono ?_
    rintro e wz ⟨rfl, ez⟩
    obtain rfl := ez.symm
    go_wp2_with fail
    refine hK.out _ _ (⟨cells11 (kept_block kB' vv), (cells4 (kept_block kF' vv)).1, HC.out _ vv⟩) (fun hHeld => ?_)
    clear hK K
    try simp only [Act.put, lA, lB, lC]
    refine wpAnyH_take (i := 16) (oi := ⟨some 120, .unOp .not 4 (.tmp 119), 4, "laws.go:665", #[⟨15, .data⟩, ⟨9, .guard⟩], some (9, false)⟩) (v := ?_) rfl (by kernel_rfl) (by kernel_rfl) (by kernel_rfl) (fun _ _ _ h => hQp _ _ _ _ _ h) (Or.inl ⟨by rfl, ?_⟩) (by assumption) ?_
    rotate_left
    ·(intro _ h; (try dsimp only at h); go_simp; try with_reducible rfl)
    simp only [Act.put, lA, lB, lC]
    refine wpAnyH_take (i := 17) (oi := ⟨some 121, .pick (.tmp 113) (.const (.bool true)) (.tmp 120), 4, "laws.go:665", #[⟨9, .data⟩, ⟨16, .data⟩], none⟩) (v := ?_) rfl (by kernel_rfl) (by kernel_rfl) (by kernel_rfl) (fun _ _ _ h => hQp _ _ _ _ _ h) (Or.inl ⟨by rfl, ?_⟩) (by assumption) ?_
    rotate_left
    ·(intro _ h; (try dsimp only at h); go_simp; try with_reducible rfl)
    simp only [Act.put, lA, lB, lC]
    refine wpAnyH_take (i := 18) (oi := ⟨some 122, .move (.tmp 121), 4, "laws.go:665", #[⟨17, .data⟩, ⟨15, .chain⟩], none⟩) (v := ?_) rfl (by kernel_rfl) (by kernel_rfl) (by kernel_rfl) (fun _ _ _ h => hQp _ _ _ _ _ h) (Or.inl ⟨by rfl, ?_⟩) (by assumption) ?_
    rotate_left
    ·(intro _ h; (try dsimp only at h); go_simp; try with_reducible rfl)
    simp only [Act.put, lA, lB, lC]
    refine wpAnyH_take (i := 19) (oi := ⟨some 123, .move (.tmp 7), 36, "laws.go:665", #[⟨18, .guard⟩], some (18, false)⟩) (v := ?_) rfl (by kernel_rfl) (by kernel_rfl) (by kernel_rfl) (fun _ _ _ h => hQp _ _ _ _ _ h) (Or.inl ⟨by rfl, ?_⟩) (by assumption) ?_
    rotate_left
    ·(intro _ h; (try dsimp only at h); go_simp; try with_reducible rfl)
    simp only [Act.put, lA, lB, lC]
    refine wpAnyH_take (i := 20) (oi := ⟨some 124, .move (.tmp 13), 3, "laws.go:665", #[⟨18, .guard⟩], some (18, false)⟩) (v := ?_) rfl (by kernel_rfl) (by kernel_rfl) (by kernel_rfl) (fun _ _ _ h => hQp _ _ _ _ _ h) (Or.inl ⟨by rfl, ?_⟩) (by assumption) ?_
    rotate_left
    ·(intro _ h; (try dsimp only at h); go_simp; try with_reducible rfl)
    simp only [Act.put, lA, lB, lC]
    refine wpAnyH_take (i := 21) (oi := ⟨some 125, .indexAddr 36 (.tmp 123) (.tmp 124), 0, "laws.go:665", #[⟨19, .data⟩, ⟨20, .data⟩, ⟨18, .guard⟩], some (18, false)⟩) (v := ?_) rfl (by kernel_rfl) (by kernel_rfl) (by kernel_rfl) (fun _ _ _ h => hQp _ _ _ _ _ h) (Or.inl ⟨by rfl, ?_⟩) (by assumption) ?_
    rotate_left
    ·(intro _ h; (try dsimp only at h); go_simp; try with_reducible rfl)
    simp only [Act.put, lA, lB, lC]
    refine wpAnyH_take (i := 22) (oi := ⟨some 126, .fieldAddr 48 (.tmp 125) 1, 0, "laws.go:665", #[⟨21, .data⟩, ⟨18, .guard⟩], some (18, false)⟩) (v := ?_) rfl (by kernel_rfl) (by kernel_rfl) (by kernel_rfl) (fun _ _ _ h => hQp _ _ _ _ _ h) (Or.inl ⟨by rfl, ?_⟩) (by assumption) ?_
    rotate_left
    ·(intro _ h; (try dsimp only at h); go_simp; try with_reducible rfl)
    simp only [Act.put, lA, lB, lC]
    refine wpAnyH_take (i := 23) (oi := ⟨some 127, .fieldAddr 33 (.tmp 126) 2, 0, "laws.go:665", #[⟨22, .data⟩, ⟨18, .guard⟩], some (18, false)⟩) (v := ?_) rfl (by kernel_rfl) (by kernel_rfl) (by kernel_rfl) (fun _ _ _ h => hQp _ _ _ _ _ h) (Or.inl ⟨by rfl, ?_⟩) (by assumption) ?_
    rotate_left
    ·(intro _ h; (try dsimp only at h); go_simp; try with_reducible rfl)
    simp only [Act.put, lA, lB, lC]
    refine wpAnyH_take (i := 24) (oi := ⟨some 128, .load 3 (.tmp 127), 3, "laws.go:665", #[⟨23, .data⟩, ⟨18, .guard⟩], some (18, false)⟩) (v := ?_) rfl (by kernel_rfl) (by kernel_rfl) (by kernel_rfl) (fun _ _ _ h => hQp _ _ _ _ _ h) (Or.inl ⟨by rfl, ?_⟩) (by assumption) ?_
    rotate_left
    ·(intro _ h; (try dsimp only at h); go_simp; try with_reducible rfl)
    simp only [Act.put, lA, lB, lC]
    refine wpAnyH_take (i := 25) (oi := ⟨some 129, .fieldAddr 31 (.tmp 3) 4, 0, "laws.go:665", #[⟨18, .guard⟩], some (18, false)⟩) (v := ?_) rfl (by kernel_rfl) (by kernel_rfl) (by kernel_rfl) (fun _ _ _ h => hQp _ _ _ _ _ h) (Or.inl ⟨by rfl, ?_⟩) (by assumption) ?_
    rotate_left
    ·(intro _ h; (try dsimp only at h); go_simp; try with_reducible rfl)
    simp only [Act.put, lA, lB, lC]
    refine wpAnyH_take (i := 26) (oi := ⟨some 130, .load 29 (.tmp 129), 29, "laws.go:665", #[⟨25, .data⟩, ⟨18, .guard⟩], some (18, false)⟩) (v := ?_) rfl (by kernel_rfl) (by kernel_rfl) (by kernel_rfl) (fun _ _ _ h => hQp _ _ _ _ _ h) (Or.inl ⟨by rfl, ?_⟩) (by assumption) ?_
    rotate_left
    ·(intro _ h; (try dsimp only at h); go_simp; try with_reducible rfl)
    simp only [Act.put, lA, lB, lC]
    refine wpAnyH_take (i := 27) (oi := ⟨some 131, .move (.tmp 10), 3, "laws.go:665", #[⟨18, .guard⟩], some (18, false)⟩) (v := ?_) rfl (by kernel_rfl) (by kernel_rfl) (by kernel_rfl) (fun _ _ _ h => hQp _ _ _ _ _ h) (Or.inl ⟨by rfl, ?_⟩) (by assumption) ?_
    rotate_left
    ·(intro _ h; (try dsimp only at h); go_simp; try with_reducible rfl)
    simp only [Act.put, lA, lB, lC]
    refine wpAnyH_take (i := 28) (oi := ⟨some 132, .move (.tmp 14), 3, "laws.go:665", #[⟨18, .guard⟩], some (18, false)⟩) (v := ?_) rfl (by kernel_rfl) (by kernel_rfl) (by kernel_rfl) (fun _ _ _ h => hQp _ _ _ _ _ h) (Or.inl ⟨by rfl, ?_⟩) (by assumption) ?_
    rotate_left
    ·(intro _ h; (try dsimp only at h); go_simp; try with_reducible rfl)
    simp only [Act.put, lA, lB, lC]
    refine tR [29] ?_
    refine AllReadyH.cons (o := q487) rfl (fun K hK => ?_) ?_
    ·go_simp
     refine (implShown_any ra rn rc oa on oc B.v id (j : Int) _ (hrows.below vv) hRb (by omega)).mono ?_
     rw [HSG.out]
     rintro e wt ⟨rfl, hbt⟩
     have vv := gr_trans vv hbt
     clear hbt
     go_wp2_with fail
     refine hK.out _ _ (⟨cells11 (kept_block kB' vv), (cells4 (kept_block kF' vv)).1, HC.out _ vv⟩) (fun hHeld => ?_)
     clear hK K
     try simp only [Act.put, lA, lB, lC]
     refine wpAnyH_take (i := 30) (oi := ⟨some 134, .binOp .neq 3 (.tmp 128) (.tmp 133) 3, 4, "laws.go:665", #[⟨24, .data⟩, ⟨29, .data⟩, ⟨18, .guard⟩], some (18, false)⟩) (v := .bool false) rfl (by kernel_rfl) (by kernel_rfl) (by kernel_rfl) (fun _ _ _ h => hQp _ _ _ _ _ h) (Or.inl ⟨by rfl, ?_⟩) (by assumption) ?_
     ·(intro wY hSw; (try dsimp only at hSw); go_simp; first | done | omega)
     simp only [Act.put, lA, lB, lC]
     refine wpAnyH_take (i := 31) (oi := ⟨some 135, .pick (.tmp 122) (.const (.bool true)) (.tmp 134), 4, "laws.go:665", #[⟨18, .data⟩, ⟨30, .data⟩], none⟩) (v := ?_) rfl (by kernel_rfl) (by kernel_rfl) (by kernel_rfl) (fun _ _ _ h => hQp _ _ _ _ _ h) (Or.inl ⟨by rfl, ?_⟩) (by assumption) ?_
     rotate_left
     ·(intro _ h; (try dsimp only at h); go_simp; try with_reducible rfl)
     simp only [Act.put, lA, lB, lC]
     refine wpAnyH_take (i := 32) (oi := ⟨some 136, .move (.tmp 135), 4, "laws.go:665", #[⟨31, .data⟩, ⟨29, .chain⟩], none⟩) (v := ?_) rfl (by kernel_rfl) (by kernel_rfl) (by kernel_rfl) (fun _ _ _ h => hQp _ _ _ _ _ h) (Or.inl ⟨by rfl, ?_⟩) (by assumption) ?_
     rotate_left
     ·(intro _ h; (try dsimp only at h); go_simp; try with_reducible rfl)
     simp only [Act.put, lA, lB, lC]
     refine wpAnyH_take (i := 33) (oi := ⟨some 137, .move (.tmp 7), 36, "laws.go:665", #[⟨32, .guard⟩], some (32, false)⟩) (v := ?_) rfl (by kernel_rfl) (by kernel_rfl) (by kernel_rfl) (fun _ _ _ h => hQp _ _ _ _ _ h) (Or.inl ⟨by rfl, ?_⟩) (by assumption) ?_
     rotate_left
     ·(intro _ h; (try dsimp only at h); go_simp; try with_reducible rfl)
     simp only [Act.put, lA, lB, lC]
     refine wpAnyH_take (i := 34) (oi := ⟨some 138, .move (.tmp 13), 3, "laws.go:665", #[⟨32, .guard⟩], some (32, false)⟩) (v := ?_) rfl (by kernel_rfl) (by kernel_rfl) (by kernel_rfl) (fun _ _ _ h => hQp _ _ _ _ _ h) (Or.inl ⟨by rfl, ?_⟩) (by assumption) ?_
     rotate_left
     ·(intro _ h; (try dsimp only at h); go_simp; try with_reducible rfl)
     simp only [Act.put, lA, lB, lC]
     refine wpAnyH_take (i := 35) (oi := ⟨some 139, .indexAddr 36 (.tmp 137) (.tmp 138), 0, "laws.go:665", #[⟨33, .data⟩, ⟨34, .data⟩, ⟨32, .guard⟩], some (32, false)⟩) (v := ?_) rfl (by kernel_rfl) (by kernel_rfl) (by kernel_rfl) (fun _ _ _ h => hQp _ _ _ _ _ h) (Or.inl ⟨by rfl, ?_⟩) (by assumption) ?_
     rotate_left
     ·(intro _ h; (try dsimp only at h); go_simp; try with_reducible rfl)
     simp only [Act.put, lA, lB, lC]
     refine wpAnyH_take (i := 36) (oi := ⟨some 140, .fieldAddr 48 (.tmp 139) 1, 0, "laws.go:665", #[⟨35, .data⟩, ⟨32, .guard⟩], some (32, false)⟩) (v := ?_) rfl (by kernel_rfl) (by kernel_rfl) (by kernel_rfl) (fun _ _ _ h => hQp _ _ _ _ _ h) (Or.inl ⟨by rfl, ?_⟩) (by assumption) ?_
     rotate_left
     ·(intro _ h; (try dsimp only at h); go_simp; try with_reducible rfl)
     simp only [Act.put, lA, lB, lC]
     refine wpAnyH_take (i := 37) (oi := ⟨some 141, .fieldAddr 33 (.tmp 140) 0, 0, "laws.go:665", #[⟨36, .data⟩, ⟨32, .guard⟩], some (32, false)⟩) (v := ?_) rfl (by kernel_rfl) (by kernel_rfl) (by kernel_rfl) (fun _ _ _ h => hQp _ _ _ _ _ h) (Or.inl ⟨by rfl, ?_⟩) (by assumption) ?_
     rotate_left
     ·(intro _ h; (try dsimp only at h); go_simp; try with_reducible rfl)
     simp only [Act.put, lA, lB, lC]
     refine wpAnyH_take (i := 38) (oi := ⟨some 142, .load 3 (.tmp 141), 3, "laws.go:665", #[⟨37, .data⟩, ⟨32, .guard⟩], some (32, false)⟩) (v := ?_) rfl (by kernel_rfl) (by kernel_rfl) (by kernel_rfl) (fun _ _ _ h => hQp _ _ _ _ _ h) (Or.inl ⟨by rfl, ?_⟩) (by assumption) ?_
     rotate_left
     ·(intro _ h; (try dsimp only at h); go_simp; try with_reducible rfl)
     simp only [Act.put, lA, lB, lC]
     refine wpAnyH_take (i := 39) (oi := ⟨some 143, .fieldAddr 33 (.tmp 5) 0, 0, "laws.go:665", #[⟨32, .guard⟩], some (32, false)⟩) (v := ?_) rfl (by kernel_rfl) (by kernel_rfl) (by kernel_rfl) (fun _ _ _ h => hQp _ _ _ _ _ h) (Or.inl ⟨by rfl, ?_⟩) (by assumption) ?_
     rotate_left
     ·(intro _ h; (try dsimp only at h); go_simp; try with_reducible rfl)
     simp only [Act.put, lA, lB, lC]
     refine wpAnyH_take (i := 40) (oi := ⟨some 144, .load 3 (.tmp 143), 3, "laws.go:665", #[⟨39, .data⟩, ⟨32, .guard⟩], some (32, false)⟩) (v := ?_) rfl (by kernel_rfl) (by kernel_rfl) (by kernel_rfl) (fun _ _ _ h => hQp _ _ _ _ _ h) (Or.inl ⟨by rfl, ?_⟩) (by assumption) ?_
     rotate_left
     ·(intro _ h; (try dsimp only at h); go_simp; try with_reducible rfl)
     simp only [Act.put, lA, lB, lC]
     refine wpAnyH_take (i := 41) (oi := ⟨some 145, .binOp .neq 3 (.tmp 142) (.tmp 144) 3, 4, "laws.go:665", #[⟨38, .data⟩, ⟨40, .data⟩, ⟨32, .guard⟩], some (32, false)⟩) (v := .bool false) rfl (by kernel_rfl) (by kernel_rfl) (by kernel_rfl) (fun _ _ _ h => hQp _ _ _ _ _ h) (Or.inl ⟨by rfl, ?_⟩) (by assumption) ?_
     ·(intro wY hSw; (try dsimp only at hSw); go_simp; first | done | omega)
     simp only [Act.put, lA, lB, lC]
     refine wpAnyH_take (i := 42) (oi := ⟨some 146, .pick (.tmp 136) (.const (.bool true)) (.tmp 145), 4, "laws.go:665", #[⟨32, .data⟩, ⟨41, .data⟩], none⟩) (v := ?_) rfl (by kernel_rfl) (by kernel_rfl) (by kernel_rfl) (fun _ _ _ h => hQp _ _ _ _ _ h) (Or.inl ⟨by rfl, ?_⟩) (by assumption) ?_
     rotate_left
     ·(intro _ h; (try dsimp only at h); go_simp; try with_reducible rfl)
     simp only [Act.put, lA, lB, lC]
     refine wpAnyH_take (i := 43) (oi := ⟨some 147, .move (.tmp 146), 4, "laws.go:665", #[⟨42, .data⟩, ⟨32, .chain⟩], none⟩) (v := ?_) rfl (by kernel_rfl) (by kernel_rfl) (by kernel_rfl) (fun _ _ _ h => hQp _ _ _ _ _ h) (Or.inl ⟨by rfl, ?_⟩) (by assumption) ?_
     rotate_left
     ·(intro _ h; (try dsimp only at h); go_simp; try with_reducible rfl)
     simp only [Act.put, lA, lB, lC]
     refine wpAnyH_take (i := 44) (oi := ⟨some 148, .move (.tmp 7), 36, "laws.go:665", #[⟨43, .guard⟩], some (43, false)⟩) (v := ?_) rfl (by kernel_rfl) (by kernel_rfl) (by kernel_rfl) (fun _ _ _ h => hQp _ _ _ _ _ h) (Or.inl ⟨by rfl, ?_⟩) (by assumption) ?_
     rotate_left
     ·(intro _ h; (try dsimp only at h); go_simp; try with_reducible rfl)
     simp only [Act.put, lA, lB, lC]
     refine wpAnyH_take (i := 45) (oi := ⟨some 149, .move (.tmp 13), 3, "laws.go:665", #[⟨43, .guard⟩], some (43, false)⟩) (v := ?_) rfl (by kernel_rfl) (by kernel_rfl) (by kernel_rfl) (fun _ _ _ h => hQp _ _ _ _ _ h) (Or.inl ⟨by rfl, ?_⟩) (by assumption) ?_
     rotate_left
     ·(intro _ h; (try dsimp only at h); go_simp; try with_reducible rfl)
     simp only [Act.put, lA, lB, lC]
     refine wpAnyH_take (i := 46) (oi := ⟨some 150, .indexAddr 36 (.tmp 148) (.tmp 149), 0, "laws.go:665", #[⟨44, .data⟩, ⟨45, .data⟩, ⟨43, .guard⟩], some (43, false)⟩) (v := ?_) rfl (by kernel_rfl) (by kernel_rfl) (by kernel_rfl) (fun _ _ _ h => hQp _ _ _ _ _ h) (Or.inl ⟨by rfl, ?_⟩) (by assumption) ?_
     rotate_left
     ·(intro _ h; (try dsimp only at h); go_simp; try with_reducible rfl)
     simp only [Act.put, lA, lB, lC]
     refine wpAnyH_take (i := 47) (oi := ⟨some 151, .fieldAddr 48 (.tmp 150) 1, 0, "laws.go:665", #[⟨46, .data⟩, ⟨43, .guard⟩], some (43, false)⟩) (v := ?_) rfl (by kernel_rfl) (by kernel_rfl) (by kernel_rfl) (fun _ _ _ h => hQp _ _ _ _ _ h) (Or.inl ⟨by rfl, ?_⟩) (by assumption) ?_
     rotate_left
     ·(intro _ h; (try dsimp only at h); go_simp; try with_reducible rfl)
     simp only [Act.put, lA, lB, lC]
     refine wpAnyH_take (i := 48) (oi := ⟨some 152, .fieldAddr 33 (.tmp 151) 1, 0, "laws.go:665", #[⟨47, .data⟩, ⟨43, .guard⟩], some (43, false)⟩) (v := ?_) rfl (by kernel_rfl) (by kernel_rfl) (by kernel_rfl) (fun _ _ _ h => hQp _ _ _ _ _ h) (Or.inl ⟨by rfl, ?_⟩) (by assumption) ?_
     rotate_left
     ·(intro _ h; (try dsimp only at h); go_simp; try with_reducible rfl)
     simp only [Act.put, lA, lB, lC]
     refine wpAnyH_take (i := 49) (oi := ⟨some 153, .load 3 (.tmp 152), 3, "laws.go:665", #[⟨48, .data⟩, ⟨43, .guard⟩], some (43, false)⟩) (v := ?_) rfl (by kernel_rfl) (by kernel_rfl) (by kernel_rfl) (fun _ _ _ h => hQp _ _ _ _ _ h) (Or.inl ⟨by rfl, ?_⟩) (by assumption) ?_
     rotate_left
     ·(intro _ h; (try dsimp only at h); go_simp; try with_reducible rfl)
     simp only [Act.put, lA, lB, lC]
     refine wpAnyH_take (i := 50) (oi := ⟨some 154, .fieldAddr 33 (.tmp 5) 1, 0, "laws.go:665", #[⟨43, .guard⟩], some (43, false)⟩) (v := ?_) rfl (by kernel_rfl) (by kernel_rfl) (by kernel_rfl) (fun _ _ _ h => hQp _ _ _ _ _ h) (Or.inl ⟨by rfl, ?_⟩) (by assumption) ?_
     rotate_left
     ·(intro _ h; (try dsimp only at h); go_simp; try with_reducible rfl)
     simp only [Act.put, lA, lB, lC]
     refine wpAnyH_take (i := 51) (oi := ⟨some 155, .load 3 (.tmp 154), 3, "laws.go:665", #[⟨50, .data⟩, ⟨43, .guard⟩], some (43, false)⟩) (v := ?_) rfl (by kernel_rfl) (by kernel_rfl) (by kernel_rfl) (fun _ _ _ h => hQp _ _ _ _ _ h) (Or.inl ⟨by rfl, ?_⟩) (by assumption) ?_
     rotate_left
     ·(intro _ h; (try dsimp only at h); go_simp; try with_reducible rfl)
     simp only [Act.put, lA, lB, lC]
     refine wpAnyH_take (i := 52) (oi := ⟨some 156, .binOp .neq 3 (.tmp 153) (.tmp 155) 3, 4, "laws.go:665", #[⟨49, .data⟩, ⟨51, .data⟩, ⟨43, .guard⟩], some (43, false)⟩) (v := .bool false) rfl (by kernel_rfl) (by kernel_rfl) (by kernel_rfl) (fun _ _ _ h => hQp _ _ _ _ _ h) (Or.inl ⟨by rfl, ?_⟩) (by assumption) ?_
     ·(intro wY hSw; (try dsimp only at hSw); go_simp; first | done | omega)
     simp only [Act.put, lA, lB, lC]
     refine wpAnyH_take (i := 53) (oi := ⟨some 157, .pick (.tmp 147) (.const (.bool true)) (.tmp 156), 4, "laws.go:665", #[⟨43, .data⟩, ⟨52, .data⟩], none⟩) (v := ?_) rfl (by kernel_rfl) (by kernel_rfl) (by kernel_rfl) (fun _ _ _ h => hQp _ _ _ _ _ h) (Or.inl ⟨by rfl, ?_⟩) (by assumption) ?_
     rotate_left
     ·(intro _ h; (try dsimp only at h); go_simp; try with_reducible rfl)
     simp only [Act.put, lA, lB, lC]
     refine wpAnyH_take (i := 54) (oi := ⟨some 158, .move (.tmp 157), 4, "laws.go:665", #[⟨53, .data⟩, ⟨43, .chain⟩], none⟩) (v := ?_) rfl (by kernel_rfl) (by kernel_rfl) (by kernel_rfl) (fun _ _ _ h => hQp _ _ _ _ _ h) (Or.inl ⟨by rfl, ?_⟩) (by assumption) ?_
     rotate_left
     ·(intro _ h; (try dsimp only at h); go_simp; try with_reducible rfl)
     simp only [Act.put, lA, lB, lC]
     refine wpAnyH_take (i := 55) (oi := ⟨some 159, .move (.tmp 7), 36, "laws.go:665", #[⟨54, .guard⟩], some (54, false)⟩) (v := ?_) rfl (by kernel_rfl) (by kernel_rfl) (by kernel_rfl) (fun _ _ _ h => hQp _ _ _ _ _ h) (Or.inl ⟨by rfl, ?_⟩) (by assumption) ?_
     rotate_left
     ·(intro _ h; (try dsimp only at h); go_simp; try with_reducible rfl)
     simp only [Act.put, lA, lB, lC]
     refine wpAnyH_take (i := 56) (oi := ⟨some 160, .move (.tmp 13), 3, "laws.go:665", #[⟨54, .guard⟩], some (54, false)⟩) (v := ?_) rfl (by kernel_rfl) (by kernel_rfl) (by kernel_rfl) (fun _ _ _ h => hQp _ _ _ _ _ h) (Or.inl ⟨by rfl, ?_⟩) (by assumption) ?_
     rotate_left
     ·(intro _ h; (try dsimp only at h); go_simp; try with_reducible rfl)
     simp only [Act.put, lA, lB, lC]
     refine wpAnyH_take (i := 57) (oi := ⟨some 161, .indexAddr 36 (.tmp 159) (.tmp 160), 0, "laws.go:665", #[⟨55, .data⟩, ⟨56, .data⟩, ⟨54, .guard⟩], some (54, false)⟩) (v := ?_) rfl (by kernel_rfl) (by kernel_rfl) (by kernel_rfl) (fun _ _ _ h => hQp _ _ _ _ _ h) (Or.inl ⟨by rfl, ?_⟩) (by assumption) ?_
     rotate_left
     ·(intro _ h; (try dsimp only at h); go_simp; try with_reducible rfl)
     simp only [Act.put, lA, lB, lC]
     refine wpAnyH_take (i := 58) (oi := ⟨some 162, .fieldAddr 48 (.tmp 161) 1, 0, "laws.go:665", #[⟨57, .data⟩, ⟨54, .guard⟩], some (54, false)⟩) (v := ?_) rfl (by kernel_rfl) (by kernel_rfl) (by kernel_rfl) (fun _ _ _ h => hQp _ _ _ _ _ h) (Or.inl ⟨by rfl, ?_⟩) (by assumption) ?_
     rotate_left
     ·(intro _ h; (try dsimp only at h); go_simp; try with_reducible rfl)
     simp only [Act.put, lA, lB, lC]
     refine wpAnyH_take (i := 59) (oi := ⟨some 163, .fieldAddr 33 (.tmp 162) 3, 0, "laws.go:665", #[⟨58, .data⟩, ⟨54, .guard⟩], some (54, false)⟩) (v := ?_) rfl (by kernel_rfl) (by kernel_rfl) (by kernel_rfl) (fun _ _ _ h => hQp _ _ _ _ _ h) (Or.inl ⟨by rfl, ?_⟩) (by assumption) ?_
     rotate_left
     ·(intro _ h; (try dsimp only at h); go_simp; try with_reducible rfl)
     simp only [Act.put, lA, lB, lC]
     refine wpAnyH_take (i := 60) (oi := ⟨some 164, .load 22 (.tmp 163), 22, "laws.go:665", #[⟨59, .data⟩, ⟨54, .guard⟩], some (54, false)⟩) (v := ?_) rfl (by kernel_rfl) (by kernel_rfl) (by kernel_rfl) (fun _ _ _ h => hQp _ _ _ _ _ h) (Or.inl ⟨by rfl, ?_⟩) (by assumption) ?_
     rotate_left
     ·(intro _ h; (try dsimp only at h); go_simp; try with_reducible rfl)
     simp only [Act.put, lA, lB, lC]
     refine wpAnyH_take (i := 61) (oi := ⟨some 165, .fieldAddr 33 (.tmp 5) 3, 0, "laws.go:665", #[⟨54, .guard⟩], some (54, false)⟩) (v := ?_) rfl (by kernel_rfl) (by kernel_rfl) (by kernel_rfl) (fun _ _ _ h => hQp _ _ _ _ _ h) (Or.inl ⟨by rfl, ?_⟩) (by assumption) ?_
     rotate_left
     ·(intro _ h; (try dsimp only at h); go_simp; try with_reducible rfl)
     simp only [Act.put, lA, lB, lC]
     refine wpAnyH_take (i := 62) (oi := ⟨some 166, .load 22 (.tmp 165), 22, "laws.go:665", #[⟨61, .data⟩, ⟨54, .guard⟩], some (54, false)⟩) (v := ?_) rfl (by kernel_rfl) (by kernel_rfl) (by kernel_rfl) (fun _ _ _ h => hQp _ _ _ _ _ h) (Or.inl ⟨by rfl, ?_⟩) (by assumption) ?_
     rotate_left
     ·(intro _ h; (try dsimp only at h); go_simp; try with_reducible rfl)
     simp only [Act.put, lA, lB, lC]
     refine tR [63] ?_
     refine AllReadyH.cons (o := q521) rfl (fun K hK => ?_) ?_
     ·go_simp
      refine (same_any x.a x.n x.c zs ao nf cf zs _ (rx.below vv) (rFr.below vv)).mono ?_
      rintro e wt ⟨rfl, nd, rfl⟩
      rw [decide_eq_true (rfl : zs = zs)]
      have vv := below_drewN vv nd
      go_wp2_with fail
      refine hK.out _ _ (⟨cells11 (kept_block kB' vv), (cells4 (kept_block kF' vv)).1, HC.out _ vv⟩) (fun hHeld => ?_)
      clear hK K
      try simp only [Act.put, lA, lB, lC]
      refine wpAnyH_take (i := 64) (oi := ⟨some 168, .unOp .not 4 (.tmp 167), 4, "laws.go:665", #[⟨63, .data⟩, ⟨54, .guard⟩], some (54, false)⟩) (v := ?_) rfl (by kernel_rfl) (by kernel_rfl) (by kernel_rfl) (fun _ _ _ h => hQp _ _ _ _ _ h) (Or.inl ⟨by rfl, ?_⟩) (by assumption) ?_
      rotate_left
      ·(intro _ h; (try dsimp only at h); go_simp; try with_reducible rfl)
      simp only [Act.put, lA, lB, lC]
      refine wpAnyH_take (i := 65) (oi := ⟨some 169, .pick (.tmp 158) (.const (.bool true)) (.tmp 168), 4, "laws.go:665", #[⟨54, .data⟩, ⟨64, .data⟩], none⟩) (v := ?_) rfl (by kernel_rfl) (by kernel_rfl) (by kernel_rfl) (fun _ _ _ h => hQp _ _ _ _ _ h) (Or.inl ⟨by rfl, ?_⟩) (by assumption) ?_
      rotate_left
      ·(intro _ h; (try dsimp only at h); go_simp; try with_reducible rfl)
      simp only [Act.put, lA, lB, lC]
      refine wpAnyH_take (i := 66) (oi := ⟨some 170, .move (.tmp 169), 4, "laws.go:665", #[⟨65, .data⟩, ⟨63, .chain⟩], none⟩) (v := ?_) rfl (by kernel_rfl) (by kernel_rfl) (by kernel_rfl) (fun _ _ _ h => hQp _ _ _ _ _ h) (Or.inl ⟨by rfl, ?_⟩) (by assumption) ?_
      rotate_left
      ·(intro _ h; (try dsimp only at h); go_simp; try with_reducible rfl)
      simp only [Act.put, lA, lB, lC]
      refine wpAnyH_take (i := 67) (oi := ⟨some 171, .move (.tmp 13), 3, "laws.go:665", #[⟨66, .guard⟩], some (66, false)⟩) (v := ?_) rfl (by kernel_rfl) (by kernel_rfl) (by kernel_rfl) (fun _ _ _ h => hQp _ _ _ _ _ h) (Or.inl ⟨by rfl, ?_⟩) (by assumption) ?_
      rotate_left
      ·(intro _ h; (try dsimp only at h); go_simp; try with_reducible rfl)
      simp only [Act.put, lA, lB, lC]
      refine wpAnyH_take (i := 68) (oi := ⟨some 172, .binOp .gtr 3 (.tmp 171) (.const (.int .i64 0)) 3, 4, "laws.go:665", #[⟨67, .data⟩, ⟨66, .guard⟩], some (66, false)⟩) (v := .bool false) rfl (by kernel_rfl) (by kernel_rfl) (by kernel_rfl) (fun _ _ _ h => hQp _ _ _ _ _ h) (Or.inl ⟨by rfl, ?_⟩) (by assumption) ?_
      ·(intro wY hSw; (try dsimp only at hSw); go_simp; first | done | omega)
      simp only [Act.put, lA, lB, lC]
      refine wpAnyH_take (i := 69) (oi := ⟨some 173, .move (.tmp 172), 4, "laws.go:665", #[⟨68, .data⟩, ⟨66, .chain⟩, ⟨66, .guard⟩], some (66, false)⟩) (v := ?_) rfl (by kernel_rfl) (by kernel_rfl) (by kernel_rfl) (fun _ _ _ h => hQp _ _ _ _ _ h) (Or.inl ⟨by rfl, ?_⟩) (by assumption) ?_
      rotate_left
      ·(intro _ h; (try dsimp only at h); go_simp; try with_reducible rfl)
      simp only [Act.put, lA, lB, lC]
      refine wpAnyH_take (i := 70) (oi := ⟨some 174, .move (.tmp 7), 36, "laws.go:665", #[⟨69, .guard⟩], some (69, true)⟩) (v := undef) rfl (by kernel_rfl) (by kernel_rfl) (by kernel_rfl) (fun _ _ _ h => hQp _ _ _ _ _ h) (Or.inr ⟨by rfl, rfl⟩) (by assumption) ?_
      simp only [Act.put, lA, lB, lC]
      refine wpAnyH_take (i := 71) (oi := ⟨some 175, .move (.tmp 13), 3, "laws.go:665", #[⟨69, .guard⟩], some (69, true)⟩) (v := undef) rfl (by kernel_rfl) (by kernel_rfl) (by kernel_rfl) (fun _ _ _ h => hQp _ _ _ _ _ h) (Or.inr ⟨by rfl, rfl⟩) (by assumption) ?_
      simp only [Act.put, lA, lB, lC]
      refine wpAnyH_take (i := 72) (oi := ⟨some 176, .binOp .sub 3 (.tmp 175) (.const (.int .i64 1)) 3, 3, "laws.go:665", #[⟨71, .data⟩, ⟨69, .guard⟩], some (69, true)⟩) (v := undef) rfl (by kernel_rfl) (by kernel_rfl) (by kernel_rfl) (fun _ _ _ h => hQp _ _ _ _ _ h) (Or.inr ⟨by rfl, rfl⟩) (by assumption) ?_
      simp only [Act.put, lA, lB, lC]
      refine wpAnyH_take (i := 73) (oi := ⟨some 177, .indexAddr 36 (.tmp 174) (.tmp 176), 0, "laws.go:665", #[⟨70, .data⟩, ⟨72, .data⟩, ⟨69, .guard⟩], some (69, true)⟩) (v := undef) rfl (by kernel_rfl) (by kernel_rfl) (by kernel_rfl) (fun _ _ _ h => hQp _ _ _ _ _ h) (Or.inr ⟨by rfl, rfl⟩) (by assumption) ?_
      simp only [Act.put, lA, lB, lC]
      refine wpAnyH_take (i := 74) (oi := ⟨some 178, .fieldAddr 48 (.tmp 177) 0, 0, "laws.go:665", #[⟨73, .data⟩, ⟨69, .guard⟩], some (69, true)⟩) (v := undef) rfl (by kernel_rfl) (by kernel_rfl) (by kernel_rfl) (fun _ _ _ h => hQp _ _ _ _ _ h) (Or.inr ⟨by rfl, rfl⟩) (by assumption) ?_
      simp only [Act.put, lA, lB, lC]
      refine wpAnyH_take (i := 75) (oi := ⟨some 179, .load 3 (.tmp 178), 3, "laws.go:665", #[⟨74, .data⟩, ⟨69, .guard⟩], some (69, true)⟩) (v := undef) rfl (by kernel_rfl) (by kernel_rfl) (by kernel_rfl) (fun _ _ _ h => hQp _ _ _ _ _ h) (Or.inr ⟨by rfl, rfl⟩) (by assumption) ?_
      simp only [Act.put, lA, lB, lC]
      refine wpAnyH_take (i := 76) (oi := ⟨some 180, .move (.tmp 14), 3, "laws.go:665", #[⟨69, .guard⟩], some (69, true)⟩) (v := undef) rfl (by kernel_rfl) (by kernel_rfl) (by kernel_rfl) (fun _ _ _ h => hQp _ _ _ _ _ h) (Or.inr ⟨by rfl, rfl⟩) (by assumption) ?_
      simp only [Act.put, lA, lB, lC]
      refine wpAnyH_take (i := 77) (oi := ⟨some 181, .binOp .geq 3 (.tmp 179) (.tmp 180) 3, 4, "laws.go:665", #[⟨75, .data⟩, ⟨76, .data⟩, ⟨69, .guard⟩], some (69, true)⟩) (v := undef) rfl (by kernel_rfl) (by kernel_rfl) (by kernel_rfl) (fun _ _ _ h => hQp _ _ _ _ _ h) (Or.inr ⟨by rfl, rfl⟩) (by assumption) ?_
      simp only [Act.put, lA, lB, lC]
      refine wpAnyH_take (i := 78) (oi := ⟨some 182, .pick (.tmp 173) (.tmp 181) (.const (.bool false)), 4, "laws.go:665", #[⟨69, .data⟩, ⟨77, .data⟩, ⟨66, .guard⟩], some (66, false)⟩) (v := ?_) rfl (by kernel_rfl) (by kernel_rfl) (by kernel_rfl) (fun _ _ _ h => hQp _ _ _ _ _ h) (Or.inl ⟨by rfl, ?_⟩) (by assumption) ?_
      rotate_left
      ·(intro _ h; (try dsimp only at h); go_simp; try with_reducible rfl)
      simp only [Act.put, lA, lB, lC]
      refine wpAnyH_take (i := 79) (oi := ⟨some 183, .pick (.tmp 170) (.const (.bool true)) (.tmp 182), 4, "laws.go:665", #[⟨66, .data⟩, ⟨78, .data⟩], none⟩) (v := ?_) rfl (by kernel_rfl) (by kernel_rfl) (by kernel_rfl) (fun _ _ _ h => hQp _ _ _ _ _ h) (Or.inl ⟨by rfl, ?_⟩) (by assumption) ?_
      rotate_left
      ·(intro _ h; (try dsimp only at h); go_simp; try with_reducible rfl)
      simp only [Act.put, lA, lB, lC]
      refine wpAnyH_done (by kernel_rfl) ?_ _
      clear hHeld
      exact h _ _ _ _ _ _ _ _ _ _ _ _ _ _ _ _ _ _ _ _ _ _ _ _ _ _ _ _ _ _ _ _ _ _ _ _ _ _ _ _ _ _ _ _ _ _ _ _ _ _ _ _ _ _ _ _ _ _ _ _ _ _ _ _ _ _ _ _ _ _ _ _ _ _ _ _ _ _ _ _ vv
     exact AllReadyH.nil
    exact AllReadyH.nil
   exact AllReadyH.nil
  exact AllReadyH.nil
 exact AllReadyH.nil

set_option maxRecDepth 100000 in
set_option maxHeartbeats 32000000 in
theorem sent_reg1 {s0 s1 s2 s6 s8 s9 s11 s15 s16 s17 s18 s19 s20 s21 s22 s23 s24 s25 s26 s27 s28 s29 s30 s31 s32 s33 s34 s35 s36 s37 s38 s39 s40 s41 s42 s43 s44 s45 s46 s47 s48 s49 s50 s51 s52 s53 s54 s55 s56 s57 s58 s59 s60 s61 s62 s63 s64 s65 s66 s67 s68 s69 s70 s71 s72 s73 s74 s75 s76 s77 s78 s79 s80 s81 s82 s83 s84 s85 s86 s87 s88 s89 s90 s91 s92 s93 s94 s95 s96 s97 s98 s99 s100 s101 s102 s103 s104 s105 s106 s107 s108 s109 s110 s111 s112 s113 s114 s115 s116 s117 s118 s119 s120 s121 s122 s123 s124 s125 s126 s127 s128 s129 s130 s131 s132 s133 s134 s135 s136 s137 s138 s139 s140 s141 s142 s143 s144 s145 s146 s147 s148 s149 s150 s151 s152 s153 s154 s155 s156 s157 s158 s159 s160 s161 s162 s163 s164 s165 s166 s167 s168 s169 s170 s171 s172 s173 s174 s175 s176 s177 s178 s179 s180 s181 s182 s183 s184 s185 s186 s187 s188 s189 s190 s191 s192 s193 s194 s195 s196 s197 s198 s199 s200 s201 s202 s203 s204 s205 s206 s207 s208 s209 s210 s211 s212 s213 s214 s215 s216 s217 s218 s219 s220 s221 s222 s223 s224 s225 s226 s227 : Value} {Q : Exit → Act → World → Prop} {wr : World} {a : Option Addr} {m c : Nat} {fa : Option Addr} {fn fc : Nat} {ra : Option Addr} {rn rc : Nat} {oa : Option Addr} {on oc : Nat} {B : BR} {Bb Vf xb xo q cpX k j i i' j' : Nat} {id SB sg fd fs ft : Int} {ao : Option Addr} {nf cf : Nat} {zs : List Int} {x : OI}
  (kB' : wr.heap[Bb]? = some (.cells #[.int .i64 B.id, .string B.name, .slice a m c, .slice fa fn fc, .slice ra rn rc, .slice oa on oc, .int .i64 B.ticks, .int .i64 B.parse, .int .i64 B.word, .int .i64 B.drops, .int .i64 B.vers] 31)) (kF' : wr.heap[Vf]? = some (.cells #[.int .i64 fd, .int .i64 fs, .int .i64 ft, .slice ao nf cf] 33)) (HC : Hid (∀ W, Below wr.heap.size wr W → (W.cell? ⟨xb, xo + i * 5, none⟩ = some (.int .i64 (j : Int)) ∧ W.cell? ⟨xb, xo + i * 5 + 1, none⟩ = some (.int .i64 fd) ∧ W.cell? ⟨xb, xo + i * 5 + 2, none⟩ = some (.int .i64 fs) ∧ W.cell? ⟨xb, xo + i * 5 + 3, none⟩ = some (.int .i64 sg) ∧ W.cell? ⟨xb, xo + i * 5 + 4, none⟩ = some (.slice x.a x.n x.c)))) (hrows : GRow vrowF wr ra rn rc B.v.rows) (rFr : Row wr ao nf cf zs) (rx : Row wr x.a x.n x.c zs) (hj7 : j ≤ 7) (hjs : bitOf SB (j : Int) = true) (hje : bitOf (egressOf B.v id) (j : Int) = true) (hjk : ¬ (j : Int) = (k : Int)) (hRb : ∀ r ∈ B.v.rows, r.Rng ∧ 0 ≤ r.b ∧ r.b ≤ 63) (HSG : Hid (shownTag B.v id (j : Int) = sg)) (i1 : (0 : Int) ≤ (i : Int)) (i2 : (i : Int) < (q : Int)) (HCP : Hid (∀ W, Below wr.heap.size wr W → W.cell? ⟨xb, xo + i' * 5, none⟩ = some (.int .i64 (j' : Int)))) (hsub : IntKind.i64.wrap ((i : Int) - 1) = (i' : Int)) (i5 : (0 : Int) ≤ (i' : Int)) (i6 : (i' : Int) < (q : Int)) (hnj : ¬ (j' : Int) ≥ (j : Int)) (hi0 : 0 < i) (hQp : ∀ c (a : Act) (o : Option Nat) (v : Value) w, Q (.panic c) (a.put o v) w → Q (.panic c) a w)
  (h : ∀ (t104 t105 t106 t107 t108 t109 t110 t111 t112 t113 t114 t115 t116 t117 t118 t119 t120 t121 t122 t123 t124 t125 t126 t127 t128 t129 t130 t131 t132 t133 t134 t135 t136 t137 t138 t139 t140 t141 t142 t143 t144 t145 t146 t147 t148 t149 t150 t151 t152 t153 t154 t155 t156 t157 t158 t159 t160 t161 t162 t163 t164 t165 t166 t167 t168 t169 t170 t171 t172 t173 t174 t175 t176 t177 t178 t179 t180 t181 t182 : Value) (w' : World), Below wr.heap.size wr w' → Q .normal { tmps := #[s0, s1, s2, .pointer (some ⟨Bb, 0, none⟩), .int .i64 (k : Int), .pointer (some ⟨Vf, 0, none⟩), s6, .slice (some ⟨xb, xo, none⟩) q cpX, s8, s9, .int .i64 id, s11, .int .i64 SB, .int .i64 (i : Int), .int .i64 (j : Int), s15, s16, s17, s18, s19, s20, s21, s22, s23, s24, s25, s26, s27, s28, s29, s30, s31, s32, s33, s34, s35, s36, s37, s38, s39, s40, s41, s42, s43, s44, s45, s46, s47, s48, s49, s50, s51, s52, s53, s54, s55, s56, s57, s58, s59, s60, s61, s62, s63, s64, s65, s66, s67, s68, s69, s70, s71, s72, s73, s74, s75, s76, s77, s78, s79, s80, s81, s82, s83, s84, s85, s86, s87, s88, s89, s90, s91, s92, s93, s94, s95, s96, s97, s98, s99, s100, s101, s102, s103, t104, t105, t106, t107, t108, t109, t110, t111, t112, t113, t114, t115, t116, t117, t118, t119, t120, t121, t122, t123, t124, t125, t126, t127, t128, t129, t130, t131, t132, t133, t134, t135, t136, t137, t138, t139, t140, t141, t142, t143, t144, t145, t146, t147, t148, t149, t150, t151, t152, t153, t154, t155, t156, t157, t158, t159, t160, t161, t162, t163, t164, t165, t166, t167, t168, t169, t170, t171, t172, t173, t174, t175, t176, t177, t178, t179, t180, t181, t182, .bool false, s184, s185, s186, s187, s188, s189, s190, s191, s192, s193, s194, s195, s196, s197, s198, s199, s200, s201, s202, s203, s204, s205, s206, s207, s208, s209, s210, s211, s212, s213, s214, s215, s216, s217, s218, s219, s220, s221, s222, s223, s224, s225, s226, s227], defers := [] } w') :
  Code.wp Tryz.prog (Code.region 16 (([⟨some 104, .move (.tmp 14), 3, "laws.go:665", #[], none⟩, ⟨some 105, .move (.tmp 4), 3, "laws.go:665", #[], none⟩, ⟨some 106, .binOp .eql 3 (.tmp 104) (.tmp 105) 3, 4, "laws.go:665", #[⟨0, .data⟩, ⟨1, .data⟩], none⟩, ⟨some 107, .move (.tmp 106), 4, "laws.go:665", #[⟨2, .data⟩], none⟩, ⟨some 108, .move (.tmp 12), 3, "laws.go:665", #[⟨3, .guard⟩], some (3, false)⟩, ⟨some 109, .move (.tmp 14), 3, "laws.go:665", #[⟨3, .guard⟩], some (3, false)⟩, ⟨some 110, .call ⟨.value (.func 15), #[.tmp 108, .tmp 109], #[3, 3]⟩, 4, "laws.go:665", #[⟨4, .data⟩, ⟨5, .data⟩, ⟨3, .chain⟩, ⟨3, .guard⟩], some (3, false)⟩, ⟨some 111, .unOp .not 4 (.tmp 110), 4, "laws.go:665", #[⟨6, .data⟩, ⟨3, .guard⟩], some (3, false)⟩, ⟨some 112, .pick (.tmp 107) (.const (.bool true)) (.tmp 111), 4, "laws.go:665", #[⟨3, .data⟩, ⟨7, .data⟩], none⟩, ⟨some 113, .move (.tmp 112), 4, "laws.go:665", #[⟨8, .data⟩, ⟨6, .chain⟩], none⟩, ⟨some 114, .fieldAddr 31 (.tmp 3) 4, 0, "laws.go:665", #[⟨9, .guard⟩], some (9, false)⟩, ⟨some 115, .load 29 (.tmp 114), 29, "laws.go:665", #[⟨10, .data⟩, ⟨9, .guard⟩], some (9, false)⟩, ⟨some 116, .move (.tmp 10), 3, "laws.go:665", #[⟨9, .guard⟩], some (9, false)⟩, ⟨some 117, .call ⟨.value (.func 17), #[.tmp 115, .tmp 116], #[29, 3]⟩, 3, "laws.go:665", #[⟨11, .data⟩, ⟨12, .data⟩, ⟨9, .chain⟩, ⟨9, .guard⟩], some (9, false)⟩, ⟨some 118, .move (.tmp 14), 3, "laws.go:665", #[⟨9, .guard⟩], some (9, false)⟩, ⟨some 119, .call ⟨.value (.func 15), #[.tmp 117, .tmp 118], #[3, 3]⟩, 4, "laws.go:665", #[⟨13, .data⟩, ⟨14, .data⟩, ⟨13, .chain⟩, ⟨9, .guard⟩], some (9, false)⟩, ⟨some 120, .unOp .not 4 (.tmp 119), 4, "laws.go:665", #[⟨15, .data⟩, ⟨9, .guard⟩], some (9, false)⟩, ⟨some 121, .pick (.tmp 113) (.const (.bool true)) (.tmp 120), 4, "laws.go:665", #[⟨9, .data⟩, ⟨16, .data⟩], none⟩, ⟨some 122, .move (.tmp 121), 4, "laws.go:665", #[⟨17, .data⟩, ⟨15, .chain⟩], none⟩, ⟨some 123, .move (.tmp 7), 36, "laws.go:665", #[⟨18, .guard⟩], some (18, false)⟩, ⟨some 124, .move (.tmp 13), 3, "laws.go:665", #[⟨18, .guard⟩], some (18, false)⟩, ⟨some 125, .indexAddr 36 (.tmp 123) (.tmp 124), 0, "laws.go:665", #[⟨19, .data⟩, ⟨20, .data⟩, ⟨18, .guard⟩], some (18, false)⟩, ⟨some 126, .fieldAddr 48 (.tmp 125) 1, 0, "laws.go:665", #[⟨21, .data⟩, ⟨18, .guard⟩], some (18, false)⟩, ⟨some 127, .fieldAddr 33 (.tmp 126) 2, 0, "laws.go:665", #[⟨22, .data⟩, ⟨18, .guard⟩], some (18, false)⟩, ⟨some 128, .load 3 (.tmp 127), 3, "laws.go:665", #[⟨23, .data⟩, ⟨18, .guard⟩], some (18, false)⟩, ⟨some 129, .fieldAddr 31 (.tmp 3) 4, 0, "laws.go:665", #[⟨18, .guard⟩], some (18, false)⟩, ⟨some 130, .load 29 (.tmp 129), 29, "laws.go:665", #[⟨25, .data⟩, ⟨18, .guard⟩], some (18, false)⟩, ⟨some 131, .move (.tmp 10), 3, "laws.go:665", #[⟨18, .guard⟩], some (18, false)⟩, ⟨some 132, .move (.tmp 14), 3, "laws.go:665", #[⟨18, .guard⟩], some (18, false)⟩, ⟨some 133, .call ⟨.value (.func 18), #[.tmp 130, .tmp 131, .tmp 132], #[29, 3, 3]⟩, 3, "laws.go:665", #[⟨26, .data⟩, ⟨27, .data⟩, ⟨28, .data⟩, ⟨18, .chain⟩, ⟨18, .guard⟩], some (18, false)⟩, ⟨some 134, .binOp .neq 3 (.tmp 128) (.tmp 133) 3, 4, "laws.go:665", #[⟨24, .data⟩, ⟨29, .data⟩, ⟨18, .guard⟩], some (18, false)⟩, ⟨some 135, .pick (.tmp 122) (.const (.bool true)) (.tmp 134), 4, "laws.go:665", #[⟨18, .data⟩, ⟨30, .data⟩], none⟩, ⟨some 136, .move (.tmp 135), 4, "laws.go:665", #[⟨31, .data⟩, ⟨29, .chain⟩], none⟩, ⟨some 137, .move (.tmp 7), 36, "laws.go:665", #[⟨32, .guard⟩], some (32, false)⟩, ⟨some 138, .move (.tmp 13), 3, "laws.go:665", #[⟨32, .guard⟩], some (32, false)⟩, ⟨some 139, .indexAddr 36 (.tmp 137) (.tmp 138), 0, "laws.go:665", #[⟨33, .data⟩, ⟨34, .data⟩, ⟨32, .guard⟩], some (32, false)⟩, ⟨some 140, .fieldAddr 48 (.tmp 139) 1, 0, "laws.go:665", #[⟨35, .data⟩, ⟨32, .guard⟩], some (32, false)⟩, ⟨some 141, .fieldAddr 33 (.tmp 140) 0, 0, "laws.go:665", #[⟨36, .data⟩, ⟨32, .guard⟩], some (32, false)⟩, ⟨some 142, .load 3 (.tmp 141), 3, "laws.go:665", #[⟨37, .data⟩, ⟨32, .guard⟩], some (32, false)⟩, ⟨some 143, .fieldAddr 33 (.tmp 5) 0, 0, "laws.go:665", #[⟨32, .guard⟩], some (32, false)⟩] : List Oper).append [⟨some 144, .load 3 (.tmp 143), 3, "laws.go:665", #[⟨39, .data⟩, ⟨32, .guard⟩], some (32, false)⟩, ⟨some 145, .binOp .neq 3 (.tmp 142) (.tmp 144) 3, 4, "laws.go:665", #[⟨38, .data⟩, ⟨40, .data⟩, ⟨32, .guard⟩], some (32, false)⟩, ⟨some 146, .pick (.tmp 136) (.const (.bool true)) (.tmp 145), 4, "laws.go:665", #[⟨32, .data⟩, ⟨41, .data⟩], none⟩, ⟨some 147, .move (.tmp 146), 4, "laws.go:665", #[⟨42, .data⟩, ⟨32, .chain⟩], none⟩, ⟨some 148, .move (.tmp 7), 36, "laws.go:665", #[⟨43, .guard⟩], some (43, false)⟩, ⟨some 149, .move (.tmp 13), 3, "laws.go:665", #[⟨43, .guard⟩], some (43, false)⟩, ⟨some 150, .indexAddr 36 (.tmp 148) (.tmp 149), 0, "laws.go:665", #[⟨44, .data⟩, ⟨45, .data⟩, ⟨43, .guard⟩], some (43, false)⟩, ⟨some 151, .fieldAddr 48 (.tmp 150) 1, 0, "laws.go:665", #[⟨46, .data⟩, ⟨43, .guard⟩], some (43, false)⟩, ⟨some 152, .fieldAddr 33 (.tmp 151) 1, 0, "laws.go:665", #[⟨47, .data⟩, ⟨43, .guard⟩], some (43, false)⟩, ⟨some 153, .load 3 (.tmp 152), 3, "laws.go:665", #[⟨48, .data⟩, ⟨43, .guard⟩], some (43, false)⟩, ⟨some 154, .fieldAddr 33 (.tmp 5) 1, 0, "laws.go:665", #[⟨43, .guard⟩], some (43, false)⟩, ⟨some 155, .load 3 (.tmp 154), 3, "laws.go:665", #[⟨50, .data⟩, ⟨43, .guard⟩], some (43, false)⟩, ⟨some 156, .binOp .neq 3 (.tmp 153) (.tmp 155) 3, 4, "laws.go:665", #[⟨49, .data⟩, ⟨51, .data⟩, ⟨43, .guard⟩], some (43, false)⟩, ⟨some 157, .pick (.tmp 147) (.const (.bool true)) (.tmp 156), 4, "laws.go:665", #[⟨43, .data⟩, ⟨52, .data⟩], none⟩, ⟨some 158, .move (.tmp 157), 4, "laws.go:665", #[⟨53, .data⟩, ⟨43, .chain⟩], none⟩, ⟨some 159, .move (.tmp 7), 36, "laws.go:665", #[⟨54, .guard⟩], some (54, false)⟩, ⟨some 160, .move (.tmp 13), 3, "laws.go:665", #[⟨54, .guard⟩], some (54, false)⟩, ⟨some 161, .indexAddr 36 (.tmp 159) (.tmp 160), 0, "laws.go:665", #[⟨55, .data⟩, ⟨56, .data⟩, ⟨54, .guard⟩], some (54, false)⟩, ⟨some 162, .fieldAddr 48 (.tmp 161) 1, 0, "laws.go:665", #[⟨57, .data⟩, ⟨54, .guard⟩], some (54, false)⟩, ⟨some 163, .fieldAddr 33 (.tmp 162) 3, 0, "laws.go:665", #[⟨58, .data⟩, ⟨54, .guard⟩], some (54, false)⟩, ⟨some 164, .load 22 (.tmp 163), 22, "laws.go:665", #[⟨59, .data⟩, ⟨54, .guard⟩], some (54, false)⟩, ⟨some 165, .fieldAddr 33 (.tmp 5) 3, 0, "laws.go:665", #[⟨54, .guard⟩], some (54, false)⟩, ⟨some 166, .load 22 (.tmp 165), 22, "laws.go:665", #[⟨61, .data⟩, ⟨54, .guard⟩], some (54, false)⟩, ⟨some 167, .call ⟨.value (.func 19), #[.tmp 164, .tmp 166], #[22, 22]⟩, 4, "laws.go:665", #[⟨60, .data⟩, ⟨62, .data⟩, ⟨54, .chain⟩, ⟨54, .guard⟩], some (54, false)⟩, ⟨some 168, .unOp .not 4 (.tmp 167), 4, "laws.go:665", #[⟨63, .data⟩, ⟨54, .guard⟩], some (54, false)⟩, ⟨some 169, .pick (.tmp 158) (.const (.bool true)) (.tmp 168), 4, "laws.go:665", #[⟨54, .data⟩, ⟨64, .data⟩], none⟩, ⟨some 170, .move (.tmp 169), 4, "laws.go:665", #[⟨65, .data⟩, ⟨63, .chain⟩], none⟩, ⟨some 171, .move (.tmp 13), 3, "laws.go:665", #[⟨66, .guard⟩], some (66, false)⟩, ⟨some 172, .binOp .gtr 3 (.tmp 171) (.const (.int .i64 0)) 3, 4, "laws.go:665", #[⟨67, .data⟩, ⟨66, .guard⟩], some (66, false)⟩, ⟨some 173, .move (.tmp 172), 4, "laws.go:665", #[⟨68, .data⟩, ⟨66, .chain⟩, ⟨66, .guard⟩], some (66, false)⟩, ⟨some 174, .move (.tmp 7), 36, "laws.go:665", #[⟨69, .guard⟩], some (69, true)⟩, ⟨some 175, .move (.tmp 13), 3, "laws.go:665", #[⟨69, .guard⟩], some (69, true)⟩, ⟨some 176, .binOp .sub 3 (.tmp 175) (.const (.int .i64 1)) 3, 3, "laws.go:665", #[⟨71, .data⟩, ⟨69, .guard⟩], some (69, true)⟩, ⟨some 177, .indexAddr 36 (.tmp 174) (.tmp 176), 0, "laws.go:665", #[⟨70, .data⟩, ⟨72, .data⟩, ⟨69, .guard⟩], some (69, true)⟩, ⟨some 178, .fieldAddr 48 (.tmp 177) 0, 0, "laws.go:665", #[⟨73, .data⟩, ⟨69, .guard⟩], some (69, true)⟩, ⟨some 179, .load 3 (.tmp 178), 3, "laws.go:665", #[⟨74, .data⟩, ⟨69, .guard⟩], some (69, true)⟩, ⟨some 180, .move (.tmp 14), 3, "laws.go:665", #[⟨69, .guard⟩], some (69, true)⟩, ⟨some 181, .binOp .geq 3 (.tmp 179) (.tmp 180) 3, 4, "laws.go:665", #[⟨75, .data⟩, ⟨76, .data⟩, ⟨69, .guard⟩], some (69, true)⟩, ⟨some 182, .pick (.tmp 173) (.tmp 181) (.const (.bool false)), 4, "laws.go:665", #[⟨69, .data⟩, ⟨77, .data⟩, ⟨66, .guard⟩], some (66, false)⟩, ⟨some 183, .pick (.tmp 170) (.const (.bool true)) (.tmp 182), 4, "laws.go:665", #[⟨66, .data⟩, ⟨78, .data⟩], none⟩]).toArray true) Q { tmps := #[s0, s1, s2, .pointer (some ⟨Bb, 0, none⟩), .int .i64 (k : Int), .pointer (some ⟨Vf, 0, none⟩), s6, .slice (some ⟨xb, xo, none⟩) q cpX, s8, s9, .int .i64 id, s11, .int .i64 SB, .int .i64 (i : Int), .int .i64 (j : Int), s15, s16, s17, s18, s19, s20, s21, s22, s23, s24, s25, s26, s27, s28, s29, s30, s31, s32, s33, s34, s35, s36, s37, s38, s39, s40, s41, s42, s43, s44, s45, s46, s47, s48, s49, s50, s51, s52, s53, s54, s55, s56, s57, s58, s59, s60, s61, s62, s63, s64, s65, s66, s67, s68, s69, s70, s71, s72, s73, s74, s75, s76, s77, s78, s79, s80, s81, s82, s83, s84, s85, s86, s87, s88, s89, s90, s91, s92, s93, s94, s95, s96, s97, s98, s99, s100, s101, s102, s103, s104, s105, s106, s107, s108, s109, s110, s111, s112, s113, s114, s115, s116, s117, s118, s119, s120, s121, s122, s123, s124, s125, s126, s127, s128, s129, s130, s131, s132, s133, s134, s135, s136, s137, s138, s139, s140, s141, s142, s143, s144, s145, s146, s147, s148, s149, s150, s151, s152, s153, s154, s155, s156, s157, s158, s159, s160, s161, s162, s163, s164, s165, s166, s167, s168, s169, s170, s171, s172, s173, s174, s175, s176, s177, s178, s179, s180, s181, s182, s183, s184, s185, s186, s187, s188, s189, s190, s191, s192, s193, s194, s195, s196, s197, s198, s199, s200, s201, s202, s203, s204, s205, s206, s207, s208, s209, s210, s211, s212, s213, s214, s215, s216, s217, s218, s219, s220, s221, s222, s223, s224, s225, s226, s227], defers := [] } wr := by
 have vv : Below wr.heap.size wr wr.drew := gr_drew (Below.refl _ _)
 refine wp_region_held_drew (S := (fun W => (W.cell? ⟨Bb, 0, none⟩ = some (.int .i64 B.id) ∧ W.cell? ⟨Bb, 1, none⟩ = some (.string B.name) ∧ W.cell? ⟨Bb, 2, none⟩ = some (.slice a m c) ∧ W.cell? ⟨Bb, 3, none⟩ = some (.slice fa fn fc) ∧ W.cell? ⟨Bb, 4, none⟩ = some (.slice ra rn rc) ∧ W.cell? ⟨Bb, 5, none⟩ = some (.slice oa on oc) ∧ W.cell? ⟨Bb, 6, none⟩ = some (.int .i64 B.ticks) ∧ W.cell? ⟨Bb, 7, none⟩ = some (.int .i64 B.parse) ∧ W.cell? ⟨Bb, 8, none⟩ = some (.int .i64 B.word) ∧ W.cell? ⟨Bb, 9, none⟩ = some (.int .i64 B.drops) ∧ W.cell? ⟨Bb, 10, none⟩ = some (.int .i64 B.vers)) ∧ (W.cell? ⟨Vf, 0, none⟩ = some (.int .i64 fd) ∧ W.cell? ⟨Vf, 1, none⟩ = some (.int .i64 fs) ∧ W.cell? ⟨Vf, 2, none⟩ = some (.int .i64 ft) ∧ W.cell? ⟨Vf, 3, none⟩ = some (.slice ao nf cf)) ∧ (W.cell? ⟨xb, xo + i * 5, none⟩ = some (.int .i64 (j : Int)) ∧ W.cell? ⟨xb, xo + i * 5 + 1, none⟩ = some (.int .i64 fd) ∧ W.cell? ⟨xb, xo + i * 5 + 2, none⟩ = some (.int .i64 fs) ∧ W.cell? ⟨xb, xo + i * 5 + 3, none⟩ = some (.int .i64 sg) ∧ W.cell? ⟨xb, xo + i * 5 + 4, none⟩ = some (.slice x.a x.n x.c)) ∧ W.cell? ⟨xb, xo + i' * 5, none⟩ = some (.int .i64 (j' : Int)))) (by kernel_rfl) (⟨cells11 (kept_block kB' vv), (cells4 (kept_block kF' vv)).1, HC.out _ vv, HCP.out _ vv⟩) (fun hHeld => ?_)
 refine wpAnyH_take (i := 0) (oi := ⟨some 104, .move (.tmp 14), 3, "laws.go:665", #[], none⟩) (v := ?_) rfl (by kernel_rfl) (by kernel_rfl) (by kernel_rfl) (fun _ _ _ h => hQp _ _ _ _ _ h) (Or.inl ⟨by rfl, ?_⟩) (by assumption) ?_
 rotate_left
 ·(intro _ h; (try dsimp only at h); go_simp; try with_reducible rfl)
 simp only [Act.put, lA, lB, lC]
 refine wpAnyH_take (i := 1) (oi := ⟨some 105, .move (.tmp 4), 3, "laws.go:665", #[], none⟩) (v := ?_) rfl (by kernel_rfl) (by kernel_rfl) (by kernel_rfl) (fun _ _ _ h => hQp _ _ _ _ _ h) (Or.inl ⟨by rfl, ?_⟩) (by assumption) ?_
 rotate_left
 ·(intro _ h; (try dsimp only at h); go_simp; try with_reducible rfl)
 simp only [Act.put, lA, lB, lC]
 refine wpAnyH_take (i := 2) (oi := ⟨some 106, .binOp .eql 3 (.tmp 104) (.tmp 105) 3, 4, "laws.go:665", #[⟨0, .data⟩, ⟨1, .data⟩], none⟩) (v := .bool false) rfl (by kernel_rfl) (by kernel_rfl) (by kernel_rfl) (fun _ _ _ h => hQp _ _ _ _ _ h) (Or.inl ⟨by rfl, ?_⟩) (by assumption) ?_
 ·(intro wY hSw; (try dsimp only at hSw); go_simp; first | done | omega)
 simp only [Act.put, lA, lB, lC]
 refine wpAnyH_take (i := 3) (oi := ⟨some 107, .move (.tmp 106), 4, "laws.go:665", #[⟨2, .data⟩], none⟩) (v := ?_) rfl (by kernel_rfl) (by kernel_rfl) (by kernel_rfl) (fun _ _ _ h => hQp _ _ _ _ _ h) (Or.inl ⟨by rfl, ?_⟩) (by assumption) ?_
 rotate_left
 ·(intro _ h; (try dsimp only at h); go_simp; try with_reducible rfl)
 simp only [Act.put, lA, lB, lC]
 refine wpAnyH_take (i := 4) (oi := ⟨some 108, .move (.tmp 12), 3, "laws.go:665", #[⟨3, .guard⟩], some (3, false)⟩) (v := ?_) rfl (by kernel_rfl) (by kernel_rfl) (by kernel_rfl) (fun _ _ _ h => hQp _ _ _ _ _ h) (Or.inl ⟨by rfl, ?_⟩) (by assumption) ?_
 rotate_left
 ·(intro _ h; (try dsimp only at h); go_simp; try with_reducible rfl)
 simp only [Act.put, lA, lB, lC]
 refine wpAnyH_take (i := 5) (oi := ⟨some 109, .move (.tmp 14), 3, "laws.go:665", #[⟨3, .guard⟩], some (3, false)⟩) (v := ?_) rfl (by kernel_rfl) (by kernel_rfl) (by kernel_rfl) (fun _ _ _ h => hQp _ _ _ _ _ h) (Or.inl ⟨by rfl, ?_⟩) (by assumption) ?_
 rotate_left
 ·(intro _ h; (try dsimp only at h); go_simp; try with_reducible rfl)
 simp only [Act.put, lA, lB, lC]
 refine tR [6] ?_
 refine AllReadyH.cons (o := q464) rfl (fun K hK => ?_) ?_
 ·go_simp
  refine (lawBit_yes SB j hj7 _ hjs).mono ?_
  rintro e wz ⟨rfl, ez⟩
  obtain rfl := ez.symm
  go_wp2_with fail
  refine hK.out _ _ (⟨cells11 (kept_block kB' vv), (cells4 (kept_block kF' vv)).1, HC.out _ vv, HCP.out _ vv⟩) (fun hHeld => ?_)
  clear hK K
  try simp only [Act.put, lA, lB, lC]
  refine wpAnyH_take (i := 7) (oi := ⟨some 111, .unOp .not 4 (.tmp 110), 4, "laws.go:665", #[⟨6, .data⟩, ⟨3, .guard⟩], some (3, false)⟩) (v := ?_) rfl (by kernel_rfl) (by kernel_rfl) (by kernel_rfl) (fun _ _ _ h => hQp _ _ _ _ _ h) (Or.inl ⟨by rfl, ?_⟩) (by assumption) ?_
  rotate_left
  ·(intro _ h; (try dsimp only at h); go_simp; try with_reducible rfl)
  simp only [Act.put, lA, lB, lC]
  refine wpAnyH_take (i := 8) (oi := ⟨some 112, .pick (.tmp 107) (.const (.bool true)) (.tmp 111), 4, "laws.go:665", #[⟨3, .data⟩, ⟨7, .data⟩], none⟩) (v := ?_) rfl (by kernel_rfl) (by kernel_rfl) (by kernel_rfl) (fun _ _ _ h => hQp _ _ _ _ _ h) (Or.inl ⟨by rfl, ?_⟩) (by assumption) ?_
  rotate_left
  ·(intro _ h; (try dsimp only at h); go_simp; try with_reducible rfl)
  simp only [Act.put, lA, lB, lC]
  refine wpAnyH_take (i := 9) (oi := ⟨some 113, .move (.tmp 112), 4, "laws.go:665", #[⟨8, .data⟩, ⟨6, .chain⟩], none⟩) (v := ?_) rfl (by kernel_rfl) (by kernel_rfl) (by kernel_rfl) (fun _ _ _ h => hQp _ _ _ _ _ h) (Or.inl ⟨by rfl, ?_⟩) (by assumption) ?_
  rotate_left
  ·(intro _ h; (try dsimp only at h); go_simp; try with_reducible rfl)
  simp only [Act.put, lA, lB, lC]
  refine wpAnyH_take (i := 10) (oi := ⟨some 114, .fieldAddr 31 (.tmp 3) 4, 0, "laws.go:665", #[⟨9, .guard⟩], some (9, false)⟩) (v := ?_) rfl (by kernel_rfl) (by kernel_rfl) (by kernel_rfl) (fun _ _ _ h => hQp _ _ _ _ _ h) (Or.inl ⟨by rfl, ?_⟩) (by assumption) ?_
  rotate_left
  ·(intro _ h; (try dsimp only at h); go_simp; try with_reducible rfl)
  simp only [Act.put, lA, lB, lC]
  refine wpAnyH_take (i := 11) (oi := ⟨some 115, .load 29 (.tmp 114), 29, "laws.go:665", #[⟨10, .data⟩, ⟨9, .guard⟩], some (9, false)⟩) (v := ?_) rfl (by kernel_rfl) (by kernel_rfl) (by kernel_rfl) (fun _ _ _ h => hQp _ _ _ _ _ h) (Or.inl ⟨by rfl, ?_⟩) (by assumption) ?_
  rotate_left
  ·(intro _ h; (try dsimp only at h); go_simp; try with_reducible rfl)
  simp only [Act.put, lA, lB, lC]
  refine wpAnyH_take (i := 12) (oi := ⟨some 116, .move (.tmp 10), 3, "laws.go:665", #[⟨9, .guard⟩], some (9, false)⟩) (v := ?_) rfl (by kernel_rfl) (by kernel_rfl) (by kernel_rfl) (fun _ _ _ h => hQp _ _ _ _ _ h) (Or.inl ⟨by rfl, ?_⟩) (by assumption) ?_
  rotate_left
  ·(intro _ h; (try dsimp only at h); go_simp; try with_reducible rfl)
  simp only [Act.put, lA, lB, lC]
  refine wpAnyH_take (i := 14) (oi := ⟨some 118, .move (.tmp 14), 3, "laws.go:665", #[⟨9, .guard⟩], some (9, false)⟩) (v := ?_) rfl (by kernel_rfl) (by kernel_rfl) (by kernel_rfl) (fun _ _ _ h => hQp _ _ _ _ _ h) (Or.inl ⟨by rfl, ?_⟩) (by assumption) ?_
  rotate_left
  ·(intro _ h; (try dsimp only at h); go_simp; try with_reducible rfl)
  simp only [Act.put, lA, lB, lC]
  refine tR [13] ?_
  refine AllReadyH.cons (o := q471) rfl (fun K hK => ?_) ?_
  ·go_simp
   refine (implEgress_any ra rn rc oa on oc B.v id _ (hrows.below vv)).mono ?_
   rintro e wt ⟨rfl, hbt⟩
   have vv := gr_trans vv hbt
   clear hbt
   go_wp2_with fail
   refine hK.out _ _ (⟨cells11 (kept_block kB' vv), (cells4 (kept_block kF' vv)).1, HC.out _ vv, HCP.out _ vv⟩) (fun hHeld => ?_)
   clear hK K
   try simp only [Act.put, lA, lB, lC]
   refine tR [15] ?_
   refine AllReadyH.cons (o := q473) rfl (fun K hK => ?_) ?_
   ·go_simp
    refine (lawBit_yes (egressOf B.v id) j hj7 _ hje).mono ?_
    rintro e wz ⟨rfl, ez⟩
    obtain rfl := ez.symm
    go_wp2_with fail
    refine hK.out _ _ (⟨cells11 (kept_block kB' vv), (cells4 (kept_block kF' vv)).1, HC.out _ vv, HCP.out _ vv⟩) (fun hHeld => ?_)
    clear hK K
    try simp only [Act.put, lA, lB, lC]
    refine wpAnyH_take (i := 16) (oi := ⟨some 120, .unOp .not 4 (.tmp 119), 4, "laws.go:665", #[⟨15, .data⟩, ⟨9, .guard⟩], some (9, false)⟩) (v := ?_) rfl (by kernel_rfl) (by kernel_rfl) (by kernel_rfl) (fun _ _ _ h => hQp _ _ _ _ _ h) (Or.inl ⟨by rfl, ?_⟩) (by assumption) ?_
    rotate_left
    ·(intro _ h; (try dsimp only at h); go_simp; try with_reducible rfl)
    simp only [Act.put, lA, lB, lC]
    refine wpAnyH_take (i := 17) (oi := ⟨some 121, .pick (.tmp 113) (.const (.bool true)) (.tmp 120), 4, "laws.go:665", #[⟨9, .data⟩, ⟨16, .data⟩], none⟩) (v := ?_) rfl (by kernel_rfl) (by kernel_rfl) (by kernel_rfl) (fun _ _ _ h => hQp _ _ _ _ _ h) (Or.inl ⟨by rfl, ?_⟩) (by assumption) ?_
    rotate_left
    ·(intro _ h; (try dsimp only at h); go_simp; try with_reducible rfl)
    simp only [Act.put, lA, lB, lC]
    refine wpAnyH_take (i := 18) (oi := ⟨some 122, .move (.tmp 121), 4, "laws.go:665", #[⟨17, .data⟩, ⟨15, .chain⟩], none⟩) (v := ?_) rfl (by kernel_rfl) (by kernel_rfl) (by kernel_rfl) (fun _ _ _ h => hQp _ _ _ _ _ h) (Or.inl ⟨by rfl, ?_⟩) (by assumption) ?_
    rotate_left
    ·(intro _ h; (try dsimp only at h); go_simp; try with_reducible rfl)
    simp only [Act.put, lA, lB, lC]
    refine wpAnyH_take (i := 19) (oi := ⟨some 123, .move (.tmp 7), 36, "laws.go:665", #[⟨18, .guard⟩], some (18, false)⟩) (v := ?_) rfl (by kernel_rfl) (by kernel_rfl) (by kernel_rfl) (fun _ _ _ h => hQp _ _ _ _ _ h) (Or.inl ⟨by rfl, ?_⟩) (by assumption) ?_
    rotate_left
    ·(intro _ h; (try dsimp only at h); go_simp; try with_reducible rfl)
    simp only [Act.put, lA, lB, lC]
    refine wpAnyH_take (i := 20) (oi := ⟨some 124, .move (.tmp 13), 3, "laws.go:665", #[⟨18, .guard⟩], some (18, false)⟩) (v := ?_) rfl (by kernel_rfl) (by kernel_rfl) (by kernel_rfl) (fun _ _ _ h => hQp _ _ _ _ _ h) (Or.inl ⟨by rfl, ?_⟩) (by assumption) ?_
    rotate_left
    ·(intro _ h; (try dsimp only at h); go_simp; try with_reducible rfl)
    simp only [Act.put, lA, lB, lC]
    refine wpAnyH_take (i := 21) (oi := ⟨some 125, .indexAddr 36 (.tmp 123) (.tmp 124), 0, "laws.go:665", #[⟨19, .data⟩, ⟨20, .data⟩, ⟨18, .guard⟩], some (18, false)⟩) (v := ?_) rfl (by kernel_rfl) (by kernel_rfl) (by kernel_rfl) (fun _ _ _ h => hQp _ _ _ _ _ h) (Or.inl ⟨by rfl, ?_⟩) (by assumption) ?_
    rotate_left
    ·(intro _ h; (try dsimp only at h); go_simp; try with_reducible rfl)
    simp only [Act.put, lA, lB, lC]
    refine wpAnyH_take (i := 22) (oi := ⟨some 126, .fieldAddr 48 (.tmp 125) 1, 0, "laws.go:665", #[⟨21, .data⟩, ⟨18, .guard⟩], some (18, false)⟩) (v := ?_) rfl (by kernel_rfl) (by kernel_rfl) (by kernel_rfl) (fun _ _ _ h => hQp _ _ _ _ _ h) (Or.inl ⟨by rfl, ?_⟩) (by assumption) ?_
    rotate_left
    ·(intro _ h; (try dsimp only at h); go_simp; try with_reducible rfl)
    simp only [Act.put, lA, lB, lC]
    refine wpAnyH_take (i := 23) (oi := ⟨some 127, .fieldAddr 33 (.tmp 126) 2, 0, "laws.go:665", #[⟨22, .data⟩, ⟨18, .guard⟩], some (18, false)⟩) (v := ?_) rfl (by kernel_rfl) (by kernel_rfl) (by kernel_rfl) (fun _ _ _ h => hQp _ _ _ _ _ h) (Or.inl ⟨by rfl, ?_⟩) (by assumption) ?_
    rotate_left
    ·(intro _ h; (try dsimp only at h); go_simp; try with_reducible rfl)
    simp only [Act.put, lA, lB, lC]
    refine wpAnyH_take (i := 24) (oi := ⟨some 128, .load 3 (.tmp 127), 3, "laws.go:665", #[⟨23, .data⟩, ⟨18, .guard⟩], some (18, false)⟩) (v := ?_) rfl (by kernel_rfl) (by kernel_rfl) (by kernel_rfl) (fun _ _ _ h => hQp _ _ _ _ _ h) (Or.inl ⟨by rfl, ?_⟩) (by assumption) ?_
    rotate_left
    ·(intro _ h; (try dsimp only at h); go_simp; try with_reducible rfl)
    simp only [Act.put, lA, lB, lC]
    refine wpAnyH_take (i := 25) (oi := ⟨some 129, .fieldAddr 31 (.tmp 3) 4, 0, "laws.go:665", #[⟨18, .guard⟩], some (18, false)⟩) (v := ?_) rfl (by kernel_rfl) (by kernel_rfl) (by kernel_rfl) (fun _ _ _ h => hQp _ _ _ _ _ h) (Or.inl ⟨by rfl, ?_⟩) (by assumption) ?_
    rotate_left
    ·(intro _ h; (try dsimp only at h); go_simp; try with_reducible rfl)
    simp only [Act.put, lA, lB, lC]
    refine wpAnyH_take (i := 26) (oi := ⟨some 130, .load 29 (.tmp 129), 29, "laws.go:665", #[⟨25, .data⟩, ⟨18, .guard⟩], some (18, false)⟩) (v := ?_) rfl (by kernel_rfl) (by kernel_rfl) (by kernel_rfl) (fun _ _ _ h => hQp _ _ _ _ _ h) (Or.inl ⟨by rfl, ?_⟩) (by assumption) ?_
    rotate_left
    ·(intro _ h; (try dsimp only at h); go_simp; try with_reducible rfl)
    simp only [Act.put, lA, lB, lC]
    refine wpAnyH_take (i := 27) (oi := ⟨some 131, .move (.tmp 10), 3, "laws.go:665", #[⟨18, .guard⟩], some (18, false)⟩) (v := ?_) rfl (by kernel_rfl) (by kernel_rfl) (by kernel_rfl) (fun _ _ _ h => hQp _ _ _ _ _ h) (Or.inl ⟨by rfl, ?_⟩) (by assumption) ?_
    rotate_left
    ·(intro _ h; (try dsimp only at h); go_simp; try with_reducible rfl)
    simp only [Act.put, lA, lB, lC]
    refine wpAnyH_take (i := 28) (oi := ⟨some 132, .move (.tmp 14), 3, "laws.go:665", #[⟨18, .guard⟩], some (18, false)⟩) (v := ?_) rfl (by kernel_rfl) (by kernel_rfl) (by kernel_rfl) (fun _ _ _ h => hQp _ _ _ _ _ h) (Or.inl ⟨by rfl, ?_⟩) (by assumption) ?_
    rotate_left
    ·(intro _ h; (try dsimp only at h); go_simp; try with_reducible rfl)
    simp only [Act.put, lA, lB, lC]
    refine tR [29] ?_
    refine AllReadyH.cons (o := q487) rfl (fun K hK => ?_) ?_
    ·go_simp
     refine (implShown_any ra rn rc oa on oc B.v id (j : Int) _ (hrows.below vv) hRb (by omega)).mono ?_
     rw [HSG.out]
     rintro e wt ⟨rfl, hbt⟩
     have vv := gr_trans vv hbt
     clear hbt
     go_wp2_with fail
     refine hK.out _ _ (⟨cells11 (kept_block kB' vv), (cells4 (kept_block kF' vv)).1, HC.out _ vv, HCP.out _ vv⟩) (fun hHeld => ?_)
     clear hK K
     try simp only [Act.put, lA, lB, lC]
     refine wpAnyH_take (i := 30) (oi := ⟨some 134, .binOp .neq 3 (.tmp 128) (.tmp 133) 3, 4, "laws.go:665", #[⟨24, .data⟩, ⟨29, .data⟩, ⟨18, .guard⟩], some (18, false)⟩) (v := .bool false) rfl (by kernel_rfl) (by kernel_rfl) (by kernel_rfl) (fun _ _ _ h => hQp _ _ _ _ _ h) (Or.inl ⟨by rfl, ?_⟩) (by assumption) ?_
     ·(intro wY hSw; (try dsimp only at hSw); go_simp; first | done | omega)
     simp only [Act.put, lA, lB, lC]
     refine wpAnyH_take (i := 31) (oi := ⟨some 135, .pick (.tmp 122) (.const (.bool true)) (.tmp 134), 4, "laws.go:665", #[⟨18, .data⟩, ⟨30, .data⟩], none⟩) (v := ?_) rfl (by kernel_rfl) (by kernel_rfl) (by kernel_rfl) (fun _ _ _ h => hQp _ _ _ _ _ h) (Or.inl ⟨by rfl, ?_⟩) (by assumption) ?_
     rotate_left
     ·(intro _ h; (try dsimp only at h); go_simp; try with_reducible rfl)
     simp only [Act.put, lA, lB, lC]
     refine wpAnyH_take (i := 32) (oi := ⟨some 136, .move (.tmp 135), 4, "laws.go:665", #[⟨31, .data⟩, ⟨29, .chain⟩], none⟩) (v := ?_) rfl (by kernel_rfl) (by kernel_rfl) (by kernel_rfl) (fun _ _ _ h => hQp _ _ _ _ _ h) (Or.inl ⟨by rfl, ?_⟩) (by assumption) ?_
     rotate_left
     ·(intro _ h; (try dsimp only at h); go_simp; try with_reducible rfl)
     simp only [Act.put, lA, lB, lC]
     refine wpAnyH_take (i := 33) (oi := ⟨some 137, .move (.tmp 7), 36, "laws.go:665", #[⟨32, .guard⟩], some (32, false)⟩) (v := ?_) rfl (by kernel_rfl) (by kernel_rfl) (by kernel_rfl) (fun _ _ _ h => hQp _ _ _ _ _ h) (Or.inl ⟨by rfl, ?_⟩) (by assumption) ?_
     rotate_left
     ·(intro _ h; (try dsimp only at h); go_simp; try with_reducible rfl)
     simp only [Act.put, lA, lB, lC]
     refine wpAnyH_take (i := 34) (oi := ⟨some 138, .move (.tmp 13), 3, "laws.go:665", #[⟨32, .guard⟩], some (32, false)⟩) (v := ?_) rfl (by kernel_rfl) (by kernel_rfl) (by kernel_rfl) (fun _ _ _ h => hQp _ _ _ _ _ h) (Or.inl ⟨by rfl, ?_⟩) (by assumption) ?_
     rotate_left
     ·(intro _ h; (try dsimp only at h); go_simp; try with_reducible rfl)
     simp only [Act.put, lA, lB, lC]
     refine wpAnyH_take (i := 35) (oi := ⟨some 139, .indexAddr 36 (.tmp 137) (.tmp 138), 0, "laws.go:665", #[⟨33, .data⟩, ⟨34, .data⟩, ⟨32, .guard⟩], some (32, false)⟩) (v := ?_) rfl (by kernel_rfl) (by kernel_rfl) (by kernel_rfl) (fun _ _ _ h => hQp _ _ _ _ _ h) (Or.inl ⟨by rfl, ?_⟩) (by assumption) ?_
     rotate_left
     ·(intro _ h; (try dsimp only at h); go_simp; try with_reducible rfl)
     simp only [Act.put, lA, lB, lC]
     refine wpAnyH_take (i := 36) (oi := ⟨some 140, .fieldAddr 48 (.tmp 139) 1, 0, "laws.go:665", #[⟨35, .data⟩, ⟨32, .guard⟩], some (32, false)⟩) (v := ?_) rfl (by kernel_rfl) (by kernel_rfl) (by kernel_rfl) (fun _ _ _ h => hQp _ _ _ _ _ h) (Or.inl ⟨by rfl, ?_⟩) (by assumption) ?_
     rotate_left
     ·(intro _ h; (try dsimp only at h); go_simp; try with_reducible rfl)
     simp only [Act.put, lA, lB, lC]
     refine wpAnyH_take (i := 37) (oi := ⟨some 141, .fieldAddr 33 (.tmp 140) 0, 0, "laws.go:665", #[⟨36, .data⟩, ⟨32, .guard⟩], some (32, false)⟩) (v := ?_) rfl (by kernel_rfl) (by kernel_rfl) (by kernel_rfl) (fun _ _ _ h => hQp _ _ _ _ _ h) (Or.inl ⟨by rfl, ?_⟩) (by assumption) ?_
     rotate_left
     ·(intro _ h; (try dsimp only at h); go_simp; try with_reducible rfl)
     simp only [Act.put, lA, lB, lC]
     refine wpAnyH_take (i := 38) (oi := ⟨some 142, .load 3 (.tmp 141), 3, "laws.go:665", #[⟨37, .data⟩, ⟨32, .guard⟩], some (32, false)⟩) (v := ?_) rfl (by kernel_rfl) (by kernel_rfl) (by kernel_rfl) (fun _ _ _ h => hQp _ _ _ _ _ h) (Or.inl ⟨by rfl, ?_⟩) (by assumption) ?_
     rotate_left
     ·(intro _ h; (try dsimp only at h); go_simp; try with_reducible rfl)
     simp only [Act.put, lA, lB, lC]
     refine wpAnyH_take (i := 39) (oi := ⟨some 143, .fieldAddr 33 (.tmp 5) 0, 0, "laws.go:665", #[⟨32, .guard⟩], some (32, false)⟩) (v := ?_) rfl (by kernel_rfl) (by kernel_rfl) (by kernel_rfl) (fun _ _ _ h => hQp _ _ _ _ _ h) (Or.inl ⟨by rfl, ?_⟩) (by assumption) ?_
     rotate_left
     ·(intro _ h; (try dsimp only at h); go_simp; try with_reducible rfl)
     simp only [Act.put, lA, lB, lC]
     refine wpAnyH_take (i := 40) (oi := ⟨some 144, .load 3 (.tmp 143), 3, "laws.go:665", #[⟨39, .data⟩, ⟨32, .guard⟩], some (32, false)⟩) (v := ?_) rfl (by kernel_rfl) (by kernel_rfl) (by kernel_rfl) (fun _ _ _ h => hQp _ _ _ _ _ h) (Or.inl ⟨by rfl, ?_⟩) (by assumption) ?_
     rotate_left
     ·(intro _ h; (try dsimp only at h); go_simp; try with_reducible rfl)
     simp only [Act.put, lA, lB, lC]
     refine wpAnyH_take (i := 41) (oi := ⟨some 145, .binOp .neq 3 (.tmp 142) (.tmp 144) 3, 4, "laws.go:665", #[⟨38, .data⟩, ⟨40, .data⟩, ⟨32, .guard⟩], some (32, false)⟩) (v := .bool false) rfl (by kernel_rfl) (by kernel_rfl) (by kernel_rfl) (fun _ _ _ h => hQp _ _ _ _ _ h) (Or.inl ⟨by rfl, ?_⟩) (by assumption) ?_
     ·(intro wY hSw; (try dsimp only at hSw); go_simp; first | done | omega)
     simp only [Act.put, lA, lB, lC]
     refine wpAnyH_take (i := 42) (oi := ⟨some 146, .pick (.tmp 136) (.const (.bool true)) (.tmp 145), 4, "laws.go:665", #[⟨32, .data⟩, ⟨41, .data⟩], none⟩) (v := ?_) rfl (by kernel_rfl) (by kernel_rfl) (by kernel_rfl) (fun _ _ _ h => hQp _ _ _ _ _ h) (Or.inl ⟨by rfl, ?_⟩) (by assumption) ?_
     rotate_left
     ·(intro _ h; (try dsimp only at h); go_simp; try with_reducible rfl)
     simp only [Act.put, lA, lB, lC]
     refine wpAnyH_take (i := 43) (oi := ⟨some 147, .move (.tmp 146), 4, "laws.go:665", #[⟨42, .data⟩, ⟨32, .chain⟩], none⟩) (v := ?_) rfl (by kernel_rfl) (by kernel_rfl) (by kernel_rfl) (fun _ _ _ h => hQp _ _ _ _ _ h) (Or.inl ⟨by rfl, ?_⟩) (by assumption) ?_
     rotate_left
     ·(intro _ h; (try dsimp only at h); go_simp; try with_reducible rfl)
     simp only [Act.put, lA, lB, lC]
     refine wpAnyH_take (i := 44) (oi := ⟨some 148, .move (.tmp 7), 36, "laws.go:665", #[⟨43, .guard⟩], some (43, false)⟩) (v := ?_) rfl (by kernel_rfl) (by kernel_rfl) (by kernel_rfl) (fun _ _ _ h => hQp _ _ _ _ _ h) (Or.inl ⟨by rfl, ?_⟩) (by assumption) ?_
     rotate_left
     ·(intro _ h; (try dsimp only at h); go_simp; try with_reducible rfl)
     simp only [Act.put, lA, lB, lC]
     refine wpAnyH_take (i := 45) (oi := ⟨some 149, .move (.tmp 13), 3, "laws.go:665", #[⟨43, .guard⟩], some (43, false)⟩) (v := ?_) rfl (by kernel_rfl) (by kernel_rfl) (by kernel_rfl) (fun _ _ _ h => hQp _ _ _ _ _ h) (Or.inl ⟨by rfl, ?_⟩) (by assumption) ?_
     rotate_left
     ·(intro _ h; (try dsimp only at h); go_simp; try with_reducible rfl)
     simp only [Act.put, lA, lB, lC]
     refine wpAnyH_take (i := 46) (oi := ⟨some 150, .indexAddr 36 (.tmp 148) (.tmp 149), 0, "laws.go:665", #[⟨44, .data⟩, ⟨45, .data⟩, ⟨43, .guard⟩], some (43, false)⟩) (v := ?_) rfl (by kernel_rfl) (by kernel_rfl) (by kernel_rfl) (fun _ _ _ h => hQp _ _ _ _ _ h) (Or.inl ⟨by rfl, ?_⟩) (by assumption) ?_
     rotate_left
     ·(intro _ h; (try dsimp only at h); go_simp; try with_reducible rfl)
     simp only [Act.put, lA, lB, lC]
     refine wpAnyH_take (i := 47) (oi := ⟨some 151, .fieldAddr 48 (.tmp 150) 1, 0, "laws.go:665", #[⟨46, .data⟩, ⟨43, .guard⟩], some (43, false)⟩) (v := ?_) rfl (by kernel_rfl) (by kernel_rfl) (by kernel_rfl) (fun _ _ _ h => hQp _ _ _ _ _ h) (Or.inl ⟨by rfl, ?_⟩) (by assumption) ?_
     rotate_left
     ·(intro _ h; (try dsimp only at h); go_simp; try with_reducible rfl)
     simp only [Act.put, lA, lB, lC]
     refine wpAnyH_take (i := 48) (oi := ⟨some 152, .fieldAddr 33 (.tmp 151) 1, 0, "laws.go:665", #[⟨47, .data⟩, ⟨43, .guard⟩], some (43, false)⟩) (v := ?_) rfl (by kernel_rfl) (by kernel_rfl) (by kernel_rfl) (fun _ _ _ h => hQp _ _ _ _ _ h) (Or.inl ⟨by rfl, ?_⟩) (by assumption) ?_
     rotate_left
     ·(intro _ h; (try dsimp only at h); go_simp; try with_reducible rfl)
     simp only [Act.put, lA, lB, lC]
     refine wpAnyH_take (i := 49) (oi := ⟨some 153, .load 3 (.tmp 152), 3, "laws.go:665", #[⟨48, .data⟩, ⟨43, .guard⟩], some (43, false)⟩) (v := ?_) rfl (by kernel_rfl) (by kernel_rfl) (by kernel_rfl) (fun _ _ _ h => hQp _ _ _ _ _ h) (Or.inl ⟨by rfl, ?_⟩) (by assumption) ?_
     rotate_left
     ·(intro _ h; (try dsimp only at h); go_simp; try with_reducible rfl)
     simp only [Act.put, lA, lB, lC]
     refine wpAnyH_take (i := 50) (oi := ⟨some 154, .fieldAddr 33 (.tmp 5) 1, 0, "laws.go:665", #[⟨43, .guard⟩], some (43, false)⟩) (v := ?_) rfl (by kernel_rfl) (by kernel_rfl) (by kernel_rfl) (fun _ _ _ h => hQp _ _ _ _ _ h) (Or.inl ⟨by rfl, ?_⟩) (by assumption) ?_
     rotate_left
     ·(intro _ h; (try dsimp only at h); go_simp; try with_reducible rfl)
     simp only [Act.put, lA, lB, lC]
     refine wpAnyH_take (i := 51) (oi := ⟨some 155, .load 3 (.tmp 154), 3, "laws.go:665", #[⟨50, .data⟩, ⟨43, .guard⟩], some (43, false)⟩) (v := ?_) rfl (by kernel_rfl) (by kernel_rfl) (by kernel_rfl) (fun _ _ _ h => hQp _ _ _ _ _ h) (Or.inl ⟨by rfl, ?_⟩) (by assumption) ?_
     rotate_left
     ·(intro _ h; (try dsimp only at h); go_simp; try with_reducible rfl)
     simp only [Act.put, lA, lB, lC]
     refine wpAnyH_take (i := 52) (oi := ⟨some 156, .binOp .neq 3 (.tmp 153) (.tmp 155) 3, 4, "laws.go:665", #[⟨49, .data⟩, ⟨51, .data⟩, ⟨43, .guard⟩], some (43, false)⟩) (v := .bool false) rfl (by kernel_rfl) (by kernel_rfl) (by kernel_rfl) (fun _ _ _ h => hQp _ _ _ _ _ h) (Or.inl ⟨by rfl, ?_⟩) (by assumption) ?_
     ·(intro wY hSw; (try dsimp only at hSw); go_simp; first | done | omega)
     simp only [Act.put, lA, lB, lC]
     refine wpAnyH_take (i := 53) (oi := ⟨some 157, .pick (.tmp 147) (.const (.bool true)) (.tmp 156), 4, "laws.go:665", #[⟨43, .data⟩, ⟨52, .data⟩], none⟩) (v := ?_) rfl (by kernel_rfl) (by kernel_rfl) (by kernel_rfl) (fun _ _ _ h => hQp _ _ _ _ _ h) (Or.inl ⟨by rfl, ?_⟩) (by assumption) ?_
     rotate_left
     ·(intro _ h; (try dsimp only at h); go_simp; try with_reducible rfl)
     simp only [Act.put, lA, lB, lC]
     refine wpAnyH_take (i := 54) (oi := ⟨some 158, .move (.tmp 157), 4, "laws.go:665", #[⟨53, .data⟩, ⟨43, .chain⟩], none⟩) (v := ?_) rfl (by kernel_rfl) (by kernel_rfl) (by kernel_rfl) (fun _ _ _ h => hQp _ _ _ _ _ h) (Or.inl ⟨by rfl, ?_⟩) (by assumption) ?_
     rotate_left
     ·(intro _ h; (try dsimp only at h); go_simp; try with_reducible rfl)
     simp only [Act.put, lA, lB, lC]
     refine wpAnyH_take (i := 55) (oi := ⟨some 159, .move (.tmp 7), 36, "laws.go:665", #[⟨54, .guard⟩], some (54, false)⟩) (v := ?_) rfl (by kernel_rfl) (by kernel_rfl) (by kernel_rfl) (fun _ _ _ h => hQp _ _ _ _ _ h) (Or.inl ⟨by rfl, ?_⟩) (by assumption) ?_
     rotate_left
     ·(intro _ h; (try dsimp only at h); go_simp; try with_reducible rfl)
     simp only [Act.put, lA, lB, lC]
     refine wpAnyH_take (i := 56) (oi := ⟨some 160, .move (.tmp 13), 3, "laws.go:665", #[⟨54, .guard⟩], some (54, false)⟩) (v := ?_) rfl (by kernel_rfl) (by kernel_rfl) (by kernel_rfl) (fun _ _ _ h => hQp _ _ _ _ _ h) (Or.inl ⟨by rfl, ?_⟩) (by assumption) ?_
     rotate_left
     ·(intro _ h; (try dsimp only at h); go_simp; try with_reducible rfl)
     simp only [Act.put, lA, lB, lC]
     refine wpAnyH_take (i := 57) (oi := ⟨some 161, .indexAddr 36 (.tmp 159) (.tmp 160), 0, "laws.go:665", #[⟨55, .data⟩, ⟨56, .data⟩, ⟨54, .guard⟩], some (54, false)⟩) (v := ?_) rfl (by kernel_rfl) (by kernel_rfl) (by kernel_rfl) (fun _ _ _ h => hQp _ _ _ _ _ h) (Or.inl ⟨by rfl, ?_⟩) (by assumption) ?_
     rotate_left
     ·(intro _ h; (try dsimp only at h); go_simp; try with_reducible rfl)
     simp only [Act.put, lA, lB, lC]
     refine wpAnyH_take (i := 58) (oi := ⟨some 162, .fieldAddr 48 (.tmp 161) 1, 0, "laws.go:665", #[⟨57, .data⟩, ⟨54, .guard⟩], some (54, false)⟩) (v := ?_) rfl (by kernel_rfl) (by kernel_rfl) (by kernel_rfl) (fun _ _ _ h => hQp _ _ _ _ _ h) (Or.inl ⟨by rfl, ?_⟩) (by assumption) ?_
     rotate_left
     ·(intro _ h; (try dsimp only at h); go_simp; try with_reducible rfl)
     simp only [Act.put, lA, lB, lC]
     refine wpAnyH_take (i := 59) (oi := ⟨some 163, .fieldAddr 33 (.tmp 162) 3, 0, "laws.go:665", #[⟨58, .data⟩, ⟨54, .guard⟩], some (54, false)⟩) (v := ?_) rfl (by kernel_rfl) (by kernel_rfl) (by kernel_rfl) (fun _ _ _ h => hQp _ _ _ _ _ h) (Or.inl ⟨by rfl, ?_⟩) (by assumption) ?_
     rotate_left
     ·(intro _ h; (try dsimp only at h); go_simp; try with_reducible rfl)
     simp only [Act.put, lA, lB, lC]
     refine wpAnyH_take (i := 60) (oi := ⟨some 164, .load 22 (.tmp 163), 22, "laws.go:665", #[⟨59, .data⟩, ⟨54, .guard⟩], some (54, false)⟩) (v := ?_) rfl (by kernel_rfl) (by kernel_rfl) (by kernel_rfl) (fun _ _ _ h => hQp _ _ _ _ _ h) (Or.inl ⟨by rfl, ?_⟩) (by assumption) ?_
     rotate_left
     ·(intro _ h; (try dsimp only at h); go_simp; try with_reducible rfl)
     simp only [Act.put, lA, lB, lC]
     refine wpAnyH_take (i := 61) (oi := ⟨some 165, .fieldAddr 33 (.tmp 5) 3, 0, "laws.go:665", #[⟨54, .guard⟩], some (54, false)⟩) (v := ?_) rfl (by kernel_rfl) (by kernel_rfl) (by kernel_rfl) (fun _ _ _ h => hQp _ _ _ _ _ h) (Or.inl ⟨by rfl, ?_⟩) (by assumption) ?_
     rotate_left
     ·(intro _ h; (try dsimp only at h); go_simp; try with_reducible rfl)
     simp only [Act.put, lA, lB, lC]
     refine wpAnyH_take (i := 62) (oi := ⟨some 166, .load 22 (.tmp 165), 22, "laws.go:665", #[⟨61, .data⟩, ⟨54, .guard⟩], some (54, false)⟩) (v := ?_) rfl (by kernel_rfl) (by kernel_rfl) (by kernel_rfl) (fun _ _ _ h => hQp _ _ _ _ _ h) (Or.inl ⟨by rfl, ?_⟩) (by assumption) ?_
     rotate_left
     ·(intro _ h; (try dsimp only at h); go_simp; try with_reducible rfl)
     simp only [Act.put, lA, lB, lC]
     refine tR [63] ?_
     refine AllReadyH.cons (o := q521) rfl (fun K hK => ?_) ?_
     ·go_simp
      refine (same_any x.a x.n x.c zs ao nf cf zs _ (rx.below vv) (rFr.below vv)).mono ?_
      rintro e wt ⟨rfl, nd, rfl⟩
      rw [decide_eq_true (rfl : zs = zs)]
      have vv := below_drewN vv nd
      go_wp2_with fail
      refine hK.out _ _ (⟨cells11 (kept_block kB' vv), (cells4 (kept_block kF' vv)).1, HC.out _ vv, HCP.out _ vv⟩) (fun hHeld => ?_)
      clear hK K
      try simp only [Act.put, lA, lB, lC]
      refine wpAnyH_take (i := 64) (oi := ⟨some 168, .unOp .not 4 (.tmp 167), 4, "laws.go:665", #[⟨63, .data⟩, ⟨54, .guard⟩], some (54, false)⟩) (v := ?_) rfl (by kernel_rfl) (by kernel_rfl) (by kernel_rfl) (fun _ _ _ h => hQp _ _ _ _ _ h) (Or.inl ⟨by rfl, ?_⟩) (by assumption) ?_
      rotate_left
      ·(intro _ h; (try dsimp only at h); go_simp; try with_reducible rfl)
      simp only [Act.put, lA, lB, lC]
      refine wpAnyH_take (i := 65) (oi := ⟨some 169, .pick (.tmp 158) (.const (.bool true)) (.tmp 168), 4, "laws.go:665", #[⟨54, .data⟩, ⟨64, .data⟩], none⟩) (v := ?_) rfl (by kernel_rfl) (by kernel_rfl) (by kernel_rfl) (fun _ _ _ h => hQp _ _ _ _ _ h) (Or.inl ⟨by rfl, ?_⟩) (by assumption) ?_
      rotate_left
      ·(intro _ h; (try dsimp only at h); go_simp; try with_reducible rfl)
      simp only [Act.put, lA, lB, lC]
      refine wpAnyH_take (i := 66) (oi := ⟨some 170, .move (.tmp 169), 4, "laws.go:665", #[⟨65, .data⟩, ⟨63, .chain⟩], none⟩) (v := ?_) rfl (by kernel_rfl) (by kernel_rfl) (by kernel_rfl) (fun _ _ _ h => hQp _ _ _ _ _ h) (Or.inl ⟨by rfl, ?_⟩) (by assumption) ?_
      rotate_left
      ·(intro _ h; (try dsimp only at h); go_simp; try with_reducible rfl)
      simp only [Act.put, lA, lB, lC]
      refine wpAnyH_take (i := 67) (oi := ⟨some 171, .move (.tmp 13), 3, "laws.go:665", #[⟨66, .guard⟩], some (66, false)⟩) (v := ?_) rfl (by kernel_rfl) (by kernel_rfl) (by kernel_rfl) (fun _ _ _ h => hQp _ _ _ _ _ h) (Or.inl ⟨by rfl, ?_⟩) (by assumption) ?_
      rotate_left
      ·(intro _ h; (try dsimp only at h); go_simp; try with_reducible rfl)
      simp only [Act.put, lA, lB, lC]
      refine wpAnyH_take (i := 68) (oi := ⟨some 172, .binOp .gtr 3 (.tmp 171) (.const (.int .i64 0)) 3, 4, "laws.go:665", #[⟨67, .data⟩, ⟨66, .guard⟩], some (66, false)⟩) (v := .bool true) rfl (by kernel_rfl) (by kernel_rfl) (by kernel_rfl) (fun _ _ _ h => hQp _ _ _ _ _ h) (Or.inl ⟨by rfl, ?_⟩) (by assumption) ?_
      ·(intro wY hSw; (try dsimp only at hSw); go_simp; first | done | omega)
      simp only [Act.put, lA, lB, lC]
      refine wpAnyH_take (i := 69) (oi := ⟨some 173, .move (.tmp 172), 4, "laws.go:665", #[⟨68, .data⟩, ⟨66, .chain⟩, ⟨66, .guard⟩], some (66, false)⟩) (v := ?_) rfl (by kernel_rfl) (by kernel_rfl) (by kernel_rfl) (fun _ _ _ h => hQp _ _ _ _ _ h) (Or.inl ⟨by rfl, ?_⟩) (by assumption) ?_
      rotate_left
      ·(intro _ h; (try dsimp only at h); go_simp; try with_reducible rfl)
      simp only [Act.put, lA, lB, lC]
      refine wpAnyH_take (i := 70) (oi := ⟨some 174, .move (.tmp 7), 36, "laws.go:665", #[⟨69, .guard⟩], some (69, true)⟩) (v := ?_) rfl (by kernel_rfl) (by kernel_rfl) (by kernel_rfl) (fun _ _ _ h => hQp _ _ _ _ _ h) (Or.inl ⟨by rfl, ?_⟩) (by assumption) ?_
      rotate_left
      ·(intro _ h; (try dsimp only at h); go_simp; try with_reducible rfl)
      simp only [Act.put, lA, lB, lC]
      refine wpAnyH_take (i := 71) (oi := ⟨some 175, .move (.tmp 13), 3, "laws.go:665", #[⟨69, .guard⟩], some (69, true)⟩) (v := ?_) rfl (by kernel_rfl) (by kernel_rfl) (by kernel_rfl) (fun _ _ _ h => hQp _ _ _ _ _ h) (Or.inl ⟨by rfl, ?_⟩) (by assumption) ?_
      rotate_left
      ·(intro _ h; (try dsimp only at h); go_simp; try with_reducible rfl)
      simp only [Act.put, lA, lB, lC]
      refine wpAnyH_take (i := 72) (oi := ⟨some 176, .binOp .sub 3 (.tmp 175) (.const (.int .i64 1)) 3, 3, "laws.go:665", #[⟨71, .data⟩, ⟨69, .guard⟩], some (69, true)⟩) (v := ?_) rfl (by kernel_rfl) (by kernel_rfl) (by kernel_rfl) (fun _ _ _ h => hQp _ _ _ _ _ h) (Or.inl ⟨by rfl, ?_⟩) (by assumption) ?_
      rotate_left
      ·(intro _ h; (try dsimp only at h); go_simp; try with_reducible rfl)
      simp only [Act.put, lA, lB, lC]
      refine wpAnyH_take (i := 73) (oi := ⟨some 177, .indexAddr 36 (.tmp 174) (.tmp 176), 0, "laws.go:665", #[⟨70, .data⟩, ⟨72, .data⟩, ⟨69, .guard⟩], some (69, true)⟩) (v := ?_) rfl (by kernel_rfl) (by kernel_rfl) (by kernel_rfl) (fun _ _ _ h => hQp _ _ _ _ _ h) (Or.inl ⟨by rfl, ?_⟩) (by assumption) ?_
      rotate_left
      ·(intro _ h; (try dsimp only at h); go_simp; try with_reducible rfl)
      simp only [Act.put, lA, lB, lC]
      refine wpAnyH_take (i := 74) (oi := ⟨some 178, .fieldAddr 48 (.tmp 177) 0, 0, "laws.go:665", #[⟨73, .data⟩, ⟨69, .guard⟩], some (69, true)⟩) (v := ?_) rfl (by kernel_rfl) (by kernel_rfl) (by kernel_rfl) (fun _ _ _ h => hQp _ _ _ _ _ h) (Or.inl ⟨by rfl, ?_⟩) (by assumption) ?_
      rotate_left
      ·(intro _ h; (try dsimp only at h); go_simp; try with_reducible rfl)
      simp only [Act.put, lA, lB, lC]
      refine wpAnyH_take (i := 75) (oi := ⟨some 179, .load 3 (.tmp 178), 3, "laws.go:665", #[⟨74, .data⟩, ⟨69, .guard⟩], some (69, true)⟩) (v := ?_) rfl (by kernel_rfl) (by kernel_rfl) (by kernel_rfl) (fun _ _ _ h => hQp _ _ _ _ _ h) (Or.inl ⟨by rfl, ?_⟩) (by assumption) ?_
      rotate_left
      ·(intro _ h; (try dsimp only at h); go_simp; try with_reducible rfl)
      simp only [Act.put, lA, lB, lC]
      refine wpAnyH_take (i := 76) (oi := ⟨some 180, .move (.tmp 14), 3, "laws.go:665", #[⟨69, .guard⟩], some (69, true)⟩) (v := ?_) rfl (by kernel_rfl) (by kernel_rfl) (by kernel_rfl) (fun _ _ _ h => hQp _ _ _ _ _ h) (Or.inl ⟨by rfl, ?_⟩) (by assumption) ?_
      rotate_left
      ·(intro _ h; (try dsimp only at h); go_simp; try with_reducible rfl)
      simp only [Act.put, lA, lB, lC]
      refine wpAnyH_take (i := 77) (oi := ⟨some 181, .binOp .geq 3 (.tmp 179) (.tmp 180) 3, 4, "laws.go:665", #[⟨75, .data⟩, ⟨76, .data⟩, ⟨69, .guard⟩], some (69, true)⟩) (v := .bool false) rfl (by kernel_rfl) (by kernel_rfl) (by kernel_rfl) (fun _ _ _ h => hQp _ _ _ _ _ h) (Or.inl ⟨by rfl, ?_⟩) (by assumption) ?_
      ·(intro wY hSw; (try dsimp only at hSw); go_simp; first | done | omega)
      simp only [Act.put, lA, lB, lC]
      refine wpAnyH_take (i := 78) (oi := ⟨some 182, .pick (.tmp 173) (.tmp 181) (.const (.bool false)), 4, "laws.go:665", #[⟨69, .data⟩, ⟨77, .data⟩, ⟨66, .guard⟩], some (66, false)⟩) (v := ?_) rfl (by kernel_rfl) (by kernel_rfl) (by kernel_rfl) (fun _ _ _ h => hQp _ _ _ _ _ h) (Or.inl ⟨by rfl, ?_⟩) (by assumption) ?_
      rotate_left
      ·(intro _ h; (try dsimp only at h); go_simp; try with_reducible rfl)
      simp only [Act.put, lA, lB, lC]
      refine wpAnyH_take (i := 79) (oi := ⟨some 183, .pick (.tmp 170) (.const (.bool true)) (.tmp 182), 4, "laws.go:665", #[⟨66, .data⟩, ⟨78, .data⟩], none⟩) (v := ?_) rfl (by kernel_rfl) (by kernel_rfl) (by kernel_rfl) (fun _ _ _ h => hQp _ _ _ _ _ h) (Or.inl ⟨by rfl, ?_⟩) (by assumption) ?_
      rotate_left
      ·(intro _ h; (try dsimp only at h); go_simp; try with_reducible rfl)
      simp only [Act.put, lA, lB, lC]
      refine wpAnyH_done (by kernel_rfl) ?_ _
      clear hHeld
      exact h _ _ _ _ _ _ _ _ _ _ _ _ _ _ _ _ _ _ _ _ _ _ _ _ _ _ _ _ _ _ _ _ _ _ _ _ _ _ _ _ _ _ _ _ _ _ _ _ _ _ _ _ _ _ _ _ _ _ _ _ _ _ _ _ _ _ _ _ _ _ _ _ _ _ _ _ _ _ _ _ vv
     exact AllReadyH.nil
    exact AllReadyH.nil
   exact AllReadyH.nil
  exact AllReadyH.nil
 exact AllReadyH.nil

end Go.Proofs.YtddalpglihhipaaGreat
