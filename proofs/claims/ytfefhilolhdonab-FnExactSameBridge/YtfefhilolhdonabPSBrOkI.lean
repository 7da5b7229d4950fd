/-
  Whether a bridge is right, the program's own.
-/
import Derived.Test.YtfefhilolhdonabPSBrOkS
import Derived.Test.YtfefhilolhdonabPSK01
import Derived.Test.YtfefhilolhdonabPSK03
import Derived.Test.YtfefhilolhdonabPSK06
import Derived.Test.YtfefhilolhdonabPSVtabOkS
import Derived.Deep.RegionHeld3
namespace Go.Proofs.Ytfefhilolhdonab
open Go.RowKit

set_option maxRecDepth 100000 in
set_option maxHeartbeats 1000000 in
theorem implCountsOf_any (v0 v1 v2 v3 v4 v5 : Value) (a b c d e : Int) (w : World) :
  Calls Try.prog 20 #[.agg #[v0, v1, v2, v3, v4, v5, .int .i64 a, .int .i64 b, .int .i64 c, .int .i64 d, .int .i64 e]] w fun r w' => r = .returned (.agg #[.int .i64 a, .int .i64 b, .int .i64 c, .int .i64 d, .int .i64 e]) ∧ Below w.heap.size w w' := by
 generalize hw1 : w.alloc (Obj.cells #[v0, v1, v2, v3, v4, v5, .int .i64 a, .int .i64 b, .int .i64 c, .int .i64 d, .int .i64 e] 38) = w1
 generalize hw2 : w1.alloc (Obj.cells #[.int .i64 0, .int .i64 0, .int .i64 0, .int .i64 0, .int .i64 0] 59) = w2
 have b01 : Below w.heap.size w w1 := by rw [← hw1]; exact below_one _ _
 have b12 : Below w1.heap.size w1 w2 := by rw [← hw2]; exact below_one _ _
 have b02 := gr_trans b01 b12
 have z1 : w.heap.size < w1.heap.size := by rw [← hw1]; simp
 have k1 : w2.heap[w.heap.size]? = some (.cells #[v0, v1, v2, v3, v4, v5, .int .i64 a, .int .i64 b, .int .i64 c, .int .i64 d, .int .i64 e] 38) := kept_block (by rw [← hw1]; exact block_last _ _) b12
 have k2 : w2.heap[w1.heap.size]? = some (.cells #[.int .i64 0, .int .i64 0, .int .i64 0, .int .i64 0, .int .i64 0] 59) := by rw [← hw2]; exact block_last _ _
 obtain ⟨x0, x1, x2, x3, x4, x5, x6, x7, x8, x9, x10⟩ := cells11 k1
 have y0 : w2.cell? ⟨w1.heap.size, 0, none⟩ = some (.int .i64 0) := by simp [World.cell?, k2]
 have y1 : w2.cell? ⟨w1.heap.size, 1, none⟩ = some (.int .i64 0) := by simp [World.cell?, k2]
 have y2 : w2.cell? ⟨w1.heap.size, 2, none⟩ = some (.int .i64 0) := by simp [World.cell?, k2]
 have y3 : w2.cell? ⟨w1.heap.size, 3, none⟩ = some (.int .i64 0) := by simp [World.cell?, k2]
 have y4 : w2.cell? ⟨w1.heap.size, 4, none⟩ = some (.int .i64 0) := by simp [World.cell?, k2]
 have fr := frozen8 k2
 have f0 := fr 0
 have f1 := fr 1
 have f2 := fr 2
 have f3 := fr 3
 have f4 := fr 4
 have HB := hide (below_set (below_set (below_set (below_set (below_set b02 (g := w1.heap.size) (Nat.le_of_lt z1) 0 (.int .i64 a)) (g := w1.heap.size) (Nat.le_of_lt z1) 1 (.int .i64 b)) (g := w1.heap.size) (Nat.le_of_lt z1) 2 (.int .i64 c)) (g := w1.heap.size) (Nat.le_of_lt z1) 3 (.int .i64 d)) (g := w1.heap.size) (Nat.le_of_lt z1) 4 (.int .i64 e))
 clear fr k1 k2 b01 b12 b02
 go_enter Try.func20, Try.ntmps20
 go_wp2
 exact bodyPost_ret (v := .agg #[.int .i64 a, .int .i64 b, .int .i64 c, .int .i64 d, .int .i64 e]) (by simp [results, Try.results20, go_sem, *]) rfl ⟨rfl, HB.out⟩

end Go.Proofs.Ytfefhilolhdonab
