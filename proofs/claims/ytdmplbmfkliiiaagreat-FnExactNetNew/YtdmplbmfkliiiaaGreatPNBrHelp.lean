/-
  The law file's own helpers on bridges by their contracts: a copy, whether two are the same, their size, the marks that are put and read again.
-/
import Derived.Test.YtdmplbmfkliiiaaGreatPNFentHelp
import Derived.Test.YtdmplbmfkliiiaaGreatPNK01
import Derived.Test.YtdmplbmfkliiiaaGreatPNK03
import Derived.Test.YtdmplbmfkliiiaaGreatPNK10
import Derived.Test.YtdmplbmfkliiiaaGreatPNK14
namespace Go.Proofs.YtdmplbmfkliiiaaGreat
open Go.RowKit

set_option maxRecDepth 100000 in
set_option maxHeartbeats 4000000 in
theorem eqBridge_same (a : Option Addr) (n c : Nat) (fa : Option Addr) (fn fc : Nat) (ra : Option Addr) (rn rc : Nat) (oa : Option Addr) (on oc : Nat) (a2 : Option Addr) (n2 c2 : Nat) (fa2 : Option Addr) (fn2 fc2 : Nat) (ra2 : Option Addr) (rn2 rc2 : Nat) (oa2 : Option Addr) (on2 oc2 : Nat) (B : BR) (w : World) (h : BrRow w a n c fa fn fc ra rn rc oa on oc B) (h2 : BrRow w a2 n2 c2 fa2 fn2 fc2 ra2 rn2 rc2 oa2 on2 oc2 B) :
  Calls Tryz.prog 89 #[.agg #[.int .i64 B.id, .string B.name, .slice a n c, .slice fa fn fc, .slice ra rn rc, .slice oa on oc, .int .i64 B.ticks, .int .i64 B.parse, .int .i64 B.word, .int .i64 B.drops, .int .i64 B.vers], .agg #[.int .i64 B.id, .string B.name, .slice a2 n2 c2, .slice fa2 fn2 fc2, .slice ra2 rn2 rc2, .slice oa2 on2 oc2, .int .i64 B.ticks, .int .i64 B.parse, .int .i64 B.word, .int .i64 B.drops, .int .i64 B.vers]] w fun e w' => e = .returned (.bool true) ∧ Below w.heap.size w w' := by
 generalize hw1 : w.alloc (Obj.cells #[.int .i64 B.id, .string B.name, .slice a n c, .slice fa fn fc, .slice ra rn rc, .slice oa on oc, .int .i64 B.ticks, .int .i64 B.parse, .int .i64 B.word, .int .i64 B.drops, .int .i64 B.vers] 71) = w1
 generalize hw2 : w1.alloc (Obj.cells #[.int .i64 B.id, .string B.name, .slice a2 n2 c2, .slice fa2 fn2 fc2, .slice ra2 rn2 rc2, .slice oa2 on2 oc2, .int .i64 B.ticks, .int .i64 B.parse, .int .i64 B.word, .int .i64 B.drops, .int .i64 B.vers] 71) = w2
 have b01 : Below w.heap.size w w1 := by rw [← hw1]; exact below_one _ _
 have b12 : Below w1.heap.size w1 w2 := by rw [← hw2]; exact below_one _ _
 have b02 := gr_trans b01 b12
 have k1 : w2.heap[w.heap.size]? = some (.cells #[.int .i64 B.id, .string B.name, .slice a n c, .slice fa fn fc, .slice ra rn rc, .slice oa on oc, .int .i64 B.ticks, .int .i64 B.parse, .int .i64 B.word, .int .i64 B.drops, .int .i64 B.vers] 71) := kept_block (by rw [← hw1]; exact block_last _ _) b12
 have k2 : w2.heap[w1.heap.size]? = some (.cells #[.int .i64 B.id, .string B.name, .slice a2 n2 c2, .slice fa2 fn2 fc2, .slice ra2 rn2 rc2, .slice oa2 on2 oc2, .int .i64 B.ticks, .int .i64 B.parse, .int .i64 B.word, .int .i64 B.drops, .int .i64 B.vers] 71) := by rw [← hw2]; exact block_last _ _
 obtain ⟨x0, x1, x2, x3, x4, x5, x6, x7, x8, x9, x10⟩ := cells11 k1
 obtain ⟨y0, y1, y2, y3, y4, y5, y6, y7, y8, y9, y10⟩ := cells11 k2
 go_enter Tryz.func89, Tryz.ntmps89
 go_wp2_with fail
 refine (eqPts_same a n c a2 n2 c2 B.ports _ (h.ports.below b02) (h2.ports.below b02)).mono ?_
 rintro e w3 ⟨rfl, hb3⟩
 have b03 := gr_trans b02 hb3
 have k1 := kept_block k1 hb3
 have k2 := kept_block k2 hb3
 clear x0 x1 x2 x3 x4 x5 x6 x7 x8 x9 x10 y0 y1 y2 y3 y4 y5 y6 y7 y8 y9 y10 hb3
 obtain ⟨x0, x1, x2, x3, x4, x5, x6, x7, x8, x9, x10⟩ := cells11 k1
 obtain ⟨y0, y1, y2, y3, y4, y5, y6, y7, y8, y9, y10⟩ := cells11 k2
 go_wp2_with fail
 refine (eqFents_same fa fn fc fa2 fn2 fc2 B.f _ (h.f.below b03) (h2.f.below b03)).mono ?_
 rintro e w4 ⟨rfl, hb4⟩
 have b04 := gr_trans b03 hb4
 have k1 := kept_block k1 hb4
 have k2 := kept_block k2 hb4
 clear x0 x1 x2 x3 x4 x5 x6 x7 x8 x9 x10 y0 y1 y2 y3 y4 y5 y6 y7 y8 y9 y10 hb4
 obtain ⟨x0, x1, x2, x3, x4, x5, x6, x7, x8, x9, x10⟩ := cells11 k1
 obtain ⟨y0, y1, y2, y3, y4, y5, y6, y7, y8, y9, y10⟩ := cells11 k2
 go_wp2_with fail
 refine (eqVtab_same ra rn rc oa on oc ra2 rn2 rc2 oa2 on2 oc2 B.v _ (h.v.below b04) (h2.v.below b04)).mono ?_
 rintro e w5 ⟨rfl, hb5⟩
 have b05 := gr_trans b04 hb5
 have k1 := kept_block k1 hb5
 have k2 := kept_block k2 hb5
 clear x0 x1 x2 x3 x4 x5 x6 x7 x8 x9 x10 y0 y1 y2 y3 y4 y5 y6 y7 y8 y9 y10 hb5
 obtain ⟨x0, x1, x2, x3, x4, x5, x6, x7, x8, x9, x10⟩ := cells11 k1
 obtain ⟨y0, y1, y2, y3, y4, y5, y6, y7, y8, y9, y10⟩ := cells11 k2
 have HB := hide b05
 clear k1 k2 b05
 go_wp2
 go_ret
 exact ⟨rfl, HB.out⟩

end Go.Proofs.YtdmplbmfkliiiaaGreat
