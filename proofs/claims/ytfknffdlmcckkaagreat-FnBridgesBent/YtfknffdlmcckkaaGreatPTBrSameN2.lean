/-
  Two bridges that are not the same, as the specification has it (2).
-/
import Derived.Test.YtfknffdlmcckkaaGreatPTBrOkS
import Derived.Test.YtfknffdlmcckkaaGreatPTK01
import Derived.Test.YtfknffdlmcckkaaGreatPTK07
namespace Go.Proofs.YtfknffdlmcckkaaGreat
open Go.RowKit

set_option maxRecDepth 100000 in
set_option maxHeartbeats 16000000 in
theorem specSame_no5 (i : Int) (nm : ByteArray) (t pa wo d v : Int) (i' : Int) (nm' : ByteArray) (t' pa' wo' d' v' : Int) (a : Option Addr) (n c : Nat) (fa : Option Addr) (fn fc : Nat) (ra : Option Addr) (rn rc : Nat) (oa : Option Addr) (on oc : Nat) (a2 : Option Addr) (n2 c2 : Nat) (fa2 : Option Addr) (fn2 fc2 : Nat) (ra2 : Option Addr) (rn2 rc2 : Nat) (oa2 : Option Addr) (on2 oc2 : Nat) (w : World)  (e1 : i = i') (e2 : nm = nm') (e3 : t = t') (e4 : pa = pa') (e5 : ¬ wo = wo') :
  Calls Tryz.prog 27 #[.agg #[.int .i64 i, .string nm, .slice a n c, .slice fa fn fc, .slice ra rn rc, .slice oa on oc, .int .i64 t, .int .i64 pa, .int .i64 wo, .int .i64 d, .int .i64 v], .agg #[.int .i64 i', .string nm', .slice a2 n2 c2, .slice fa2 fn2 fc2, .slice ra2 rn2 rc2, .slice oa2 on2 oc2, .int .i64 t', .int .i64 pa', .int .i64 wo', .int .i64 d', .int .i64 v']] w fun e w' => e = .returned (.bool false) ∧ Below w.heap.size w w' := by
 subst e1
 subst e2
 subst e3
 subst e4
 have hnb : (nm.toList == nm.toList) = true := by simp
 generalize hw1 : w.alloc (Obj.cells #[.int .i64 i, .string nm, .slice a n c, .slice fa fn fc, .slice ra rn rc, .slice oa on oc, .int .i64 t, .int .i64 pa, .int .i64 wo, .int .i64 d, .int .i64 v] 31) = w1
 generalize hw2 : w1.alloc (Obj.cells #[.int .i64 i, .string nm, .slice a2 n2 c2, .slice fa2 fn2 fc2, .slice ra2 rn2 rc2, .slice oa2 on2 oc2, .int .i64 t, .int .i64 pa, .int .i64 wo', .int .i64 d', .int .i64 v'] 31) = w2
 have b01 : Below w.heap.size w w1 := by rw [← hw1]; exact below_one _ _
 have b12 : Below w1.heap.size w1 w2 := by rw [← hw2]; exact below_one _ _
 have b02 := gr_trans b01 b12
 have k1 : w2.heap[w.heap.size]? = some (.cells #[.int .i64 i, .string nm, .slice a n c, .slice fa fn fc, .slice ra rn rc, .slice oa on oc, .int .i64 t, .int .i64 pa, .int .i64 wo, .int .i64 d, .int .i64 v] 31) := kept_block (by rw [← hw1]; exact block_last _ _) b12
 have k2 : w2.heap[w1.heap.size]? = some (.cells #[.int .i64 i, .string nm, .slice a2 n2 c2, .slice fa2 fn2 fc2, .slice ra2 rn2 rc2, .slice oa2 on2 oc2, .int .i64 t, .int .i64 pa, .int .i64 wo', .int .i64 d', .int .i64 v'] 31) := by rw [← hw2]; exact block_last _ _
 obtain ⟨x0, x1, x2, x3, x4, x5, x6, x7, x8, x9, x10⟩ := cells11 k1
 obtain ⟨y0, y1, y2, y3, y4, y5, y6, y7, y8, y9, y10⟩ := cells11 k2
 go_enter Tryz.func27, Tryz.ntmps27
 go_wp2
 go_ret
 exact ⟨rfl, b02⟩

set_option maxRecDepth 100000 in
set_option maxHeartbeats 16000000 in
theorem specSame_no6 (i : Int) (nm : ByteArray) (t pa wo d v : Int) (i' : Int) (nm' : ByteArray) (t' pa' wo' d' v' : Int) (a : Option Addr) (n c : Nat) (fa : Option Addr) (fn fc : Nat) (ra : Option Addr) (rn rc : Nat) (oa : Option Addr) (on oc : Nat) (a2 : Option Addr) (n2 c2 : Nat) (fa2 : Option Addr) (fn2 fc2 : Nat) (ra2 : Option Addr) (rn2 rc2 : Nat) (oa2 : Option Addr) (on2 oc2 : Nat) (w : World)  (e1 : i = i') (e2 : nm = nm') (e3 : t = t') (e4 : pa = pa') (e5 : wo = wo') (e6 : ¬ d = d') :
  Calls Tryz.prog 27 #[.agg #[.int .i64 i, .string nm, .slice a n c, .slice fa fn fc, .slice ra rn rc, .slice oa on oc, .int .i64 t, .int .i64 pa, .int .i64 wo, .int .i64 d, .int .i64 v], .agg #[.int .i64 i', .string nm', .slice a2 n2 c2, .slice fa2 fn2 fc2, .slice ra2 rn2 rc2, .slice oa2 on2 oc2, .int .i64 t', .int .i64 pa', .int .i64 wo', .int .i64 d', .int .i64 v']] w fun e w' => e = .returned (.bool false) ∧ Below w.heap.size w w' := by
 subst e1
 subst e2
 subst e3
 subst e4
 subst e5
 have hnb : (nm.toList == nm.toList) = true := by simp
 generalize hw1 : w.alloc (Obj.cells #[.int .i64 i, .string nm, .slice a n c, .slice fa fn fc, .slice ra rn rc, .slice oa on oc, .int .i64 t, .int .i64 pa, .int .i64 wo, .int .i64 d, .int .i64 v] 31) = w1
 generalize hw2 : w1.alloc (Obj.cells #[.int .i64 i, .string nm, .slice a2 n2 c2, .slice fa2 fn2 fc2, .slice ra2 rn2 rc2, .slice oa2 on2 oc2, .int .i64 t, .int .i64 pa, .int .i64 wo, .int .i64 d', .int .i64 v'] 31) = w2
 have b01 : Below w.heap.size w w1 := by rw [← hw1]; exact below_one _ _
 have b12 : Below w1.heap.size w1 w2 := by rw [← hw2]; exact below_one _ _
 have b02 := gr_trans b01 b12
 have k1 : w2.heap[w.heap.size]? = some (.cells #[.int .i64 i, .string nm, .slice a n c, .slice fa fn fc, .slice ra rn rc, .slice oa on oc, .int .i64 t, .int .i64 pa, .int .i64 wo, .int .i64 d, .int .i64 v] 31) := kept_block (by rw [← hw1]; exact block_last _ _) b12
 have k2 : w2.heap[w1.heap.size]? = some (.cells #[.int .i64 i, .string nm, .slice a2 n2 c2, .slice fa2 fn2 fc2, .slice ra2 rn2 rc2, .slice oa2 on2 oc2, .int .i64 t, .int .i64 pa, .int .i64 wo, .int .i64 d', .int .i64 v'] 31) := by rw [← hw2]; exact block_last _ _
 obtain ⟨x0, x1, x2, x3, x4, x5, x6, x7, x8, x9, x10⟩ := cells11 k1
 obtain ⟨y0, y1, y2, y3, y4, y5, y6, y7, y8, y9, y10⟩ := cells11 k2
 go_enter Tryz.func27, Tryz.ntmps27
 go_wp2
 go_ret
 exact ⟨rfl, b02⟩

set_option maxRecDepth 100000 in
set_option maxHeartbeats 16000000 in
theorem specSame_no7 (i : Int) (nm : ByteArray) (t pa wo d v : Int) (i' : Int) (nm' : ByteArray) (t' pa' wo' d' v' : Int) (a : Option Addr) (n c : Nat) (fa : Option Addr) (fn fc : Nat) (ra : Option Addr) (rn rc : Nat) (oa : Option Addr) (on oc : Nat) (a2 : Option Addr) (n2 c2 : Nat) (fa2 : Option Addr) (fn2 fc2 : Nat) (ra2 : Option Addr) (rn2 rc2 : Nat) (oa2 : Option Addr) (on2 oc2 : Nat) (w : World)  (e1 : i = i') (e2 : nm = nm') (e3 : t = t') (e4 : pa = pa') (e5 : wo = wo') (e6 : d = d') (e7 : ¬ v = v') :
  Calls Tryz.prog 27 #[.agg #[.int .i64 i, .string nm, .slice a n c, .slice fa fn fc, .slice ra rn rc, .slice oa on oc, .int .i64 t, .int .i64 pa, .int .i64 wo, .int .i64 d, .int .i64 v], .agg #[.int .i64 i', .string nm', .slice a2 n2 c2, .slice fa2 fn2 fc2, .slice ra2 rn2 rc2, .slice oa2 on2 oc2, .int .i64 t', .int .i64 pa', .int .i64 wo', .int .i64 d', .int .i64 v']] w fun e w' => e = .returned (.bool false) ∧ Below w.heap.size w w' := by
 subst e1
 subst e2
 subst e3
 subst e4
 subst e5
 subst e6
 have hnb : (nm.toList == nm.toList) = true := by simp
 generalize hw1 : w.alloc (Obj.cells #[.int .i64 i, .string nm, .slice a n c, .slice fa fn fc, .slice ra rn rc, .slice oa on oc, .int .i64 t, .int .i64 pa, .int .i64 wo, .int .i64 d, .int .i64 v] 31) = w1
 generalize hw2 : w1.alloc (Obj.cells #[.int .i64 i, .string nm, .slice a2 n2 c2, .slice fa2 fn2 fc2, .slice ra2 rn2 rc2, .slice oa2 on2 oc2, .int .i64 t, .int .i64 pa, .int .i64 wo, .int .i64 d, .int .i64 v'] 31) = w2
 have b01 : Below w.heap.size w w1 := by rw [← hw1]; exact below_one _ _
 have b12 : Below w1.heap.size w1 w2 := by rw [← hw2]; exact below_one _ _
 have b02 := gr_trans b01 b12
 have k1 : w2.heap[w.heap.size]? = some (.cells #[.int .i64 i, .string nm, .slice a n c, .slice fa fn fc, .slice ra rn rc, .slice oa on oc, .int .i64 t, .int .i64 pa, .int .i64 wo, .int .i64 d, .int .i64 v] 31) := kept_block (by rw [← hw1]; exact block_last _ _) b12
 have k2 : w2.heap[w1.heap.size]? = some (.cells #[.int .i64 i, .string nm, .slice a2 n2 c2, .slice fa2 fn2 fc2, .slice ra2 rn2 rc2, .slice oa2 on2 oc2, .int .i64 t, .int .i64 pa, .int .i64 wo, .int .i64 d, .int .i64 v'] 31) := by rw [← hw2]; exact block_last _ _
 obtain ⟨x0, x1, x2, x3, x4, x5, x6, x7, x8, x9, x10⟩ := cells11 k1
 obtain ⟨y0, y1, y2, y3, y4, y5, y6, y7, y8, y9, y10⟩ := cells11 k2
 go_enter Tryz.func27, Tryz.ntmps27
 go_wp2
 go_ret
 exact ⟨rfl, b02⟩

set_option maxRecDepth 100000 in
set_option maxHeartbeats 16000000 in
theorem specSame_no8 (i : Int) (nm : ByteArray) (t pa wo d v : Int) (i' : Int) (nm' : ByteArray) (t' pa' wo' d' v' : Int) (a : Option Addr) (n c : Nat) (fa : Option Addr) (fn fc : Nat) (ra : Option Addr) (rn rc : Nat) (oa : Option Addr) (on oc : Nat) (a2 : Option Addr) (n2 c2 : Nat) (fa2 : Option Addr) (fn2 fc2 : Nat) (ra2 : Option Addr) (rn2 rc2 : Nat) (oa2 : Option Addr) (on2 oc2 : Nat) (w : World)  (e1 : i = i') (e2 : nm = nm') (e3 : t = t') (e4 : pa = pa') (e5 : wo = wo') (e6 : d = d') (e7 : v = v') (e8 : ¬ n = n2) :
  Calls Tryz.prog 27 #[.agg #[.int .i64 i, .string nm, .slice a n c, .slice fa fn fc, .slice ra rn rc, .slice oa on oc, .int .i64 t, .int .i64 pa, .int .i64 wo, .int .i64 d, .int .i64 v], .agg #[.int .i64 i', .string nm', .slice a2 n2 c2, .slice fa2 fn2 fc2, .slice ra2 rn2 rc2, .slice oa2 on2 oc2, .int .i64 t', .int .i64 pa', .int .i64 wo', .int .i64 d', .int .i64 v']] w fun e w' => e = .returned (.bool false) ∧ Below w.heap.size w w' := by
 subst e1
 subst e2
 subst e3
 subst e4
 subst e5
 subst e6
 subst e7
 have hnb : (nm.toList == nm.toList) = true := by simp
 have hne : ¬ (n : Int) = (n2 : Int) := by omega
 generalize hw1 : w.alloc (Obj.cells #[.int .i64 i, .string nm, .slice a n c, .slice fa fn fc, .slice ra rn rc, .slice oa on oc, .int .i64 t, .int .i64 pa, .int .i64 wo, .int .i64 d, .int .i64 v] 31) = w1
 generalize hw2 : w1.alloc (Obj.cells #[.int .i64 i, .string nm, .slice a2 n2 c2, .slice fa2 fn2 fc2, .slice ra2 rn2 rc2, .slice oa2 on2 oc2, .int .i64 t, .int .i64 pa, .int .i64 wo, .int .i64 d, .int .i64 v] 31) = w2
 have b01 : Below w.heap.size w w1 := by rw [← hw1]; exact below_one _ _
 have b12 : Below w1.heap.size w1 w2 := by rw [← hw2]; exact below_one _ _
 have b02 := gr_trans b01 b12
 have k1 : w2.heap[w.heap.size]? = some (.cells #[.int .i64 i, .string nm, .slice a n c, .slice fa fn fc, .slice ra rn rc, .slice oa on oc, .int .i64 t, .int .i64 pa, .int .i64 wo, .int .i64 d, .int .i64 v] 31) := kept_block (by rw [← hw1]; exact block_last _ _) b12
 have k2 : w2.heap[w1.heap.size]? = some (.cells #[.int .i64 i, .string nm, .slice a2 n2 c2, .slice fa2 fn2 fc2, .slice ra2 rn2 rc2, .slice oa2 on2 oc2, .int .i64 t, .int .i64 pa, .int .i64 wo, .int .i64 d, .int .i64 v] 31) := by rw [← hw2]; exact block_last _ _
 obtain ⟨x0, x1, x2, x3, x4, x5, x6, x7, x8, x9, x10⟩ := cells11 k1
 obtain ⟨y0, y1, y2, y3, y4, y5, y6, y7, y8, y9, y10⟩ := cells11 k2
 go_enter Tryz.func27, Tryz.ntmps27
 go_wp2
 go_ret
 exact ⟨rfl, b02⟩

end Go.Proofs.YtfknffdlmcckkaaGreat
