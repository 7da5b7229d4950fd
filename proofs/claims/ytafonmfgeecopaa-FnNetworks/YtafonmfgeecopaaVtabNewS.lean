/-
  A new table, as the specification makes it.
-/
import Derived.Test.YtafonmfgeecopaaVtabSet
import Derived.Test.YtafonmfgeecopaaVtabRowM
namespace Go.Proofs.Ytafonmfgeecopaa
open Go.RowKit

/-- A new table of so many ports; the zero one. -/
def vtabNew (ports : Int) : VT := if (decide (1 ≤ ports) && decide (ports ≤ 6)) = true then ⟨[⟨1, allOf ports.toNat, allOf ports.toNat⟩], List.replicate ports.toNat 1⟩ else ⟨[], []⟩

theorem vtabNew_no {ports : Int} (h : (decide (1 ≤ ports) && decide (ports ≤ 6)) = false) : vtabNew ports = ⟨[], []⟩ := by
  unfold vtabNew
  rw [h, if_neg Bool.false_ne_true]
theorem vtabNew_yes {p : Nat} (h : (decide (1 ≤ (p : Int)) && decide ((p : Int) ≤ 6)) = true) : vtabNew p = ⟨[⟨1, allOf p, allOf p⟩], List.replicate p 1⟩ := by
  unfold vtabNew
  rw [if_pos h, Int.toNat_natCast]

theorem ones_i64 (k : Nat) : I64s (List.replicate k 1) := by
  intro z hz
  rw [List.eq_of_mem_replicate hz]
  exact ⟨by decide, by decide⟩

/-- A row of one that was just made is owned. -/
theorem own_one {α : Type} (F : Flat α) {w : World} {g base : Nat} {x : α} {cs : Array Value} {T : TypeId} (h : w.heap[g]? = some (.cells cs T)) (hc : cs.toList = F.cs x) (hb : base ≤ g) : w.ownsRow base T F.k (.slice (some ⟨g, 0, none⟩) 1 1) 1 (F.all [x]) := by
  have hl : cs.toList.length = F.k := by rw [hc, F.len]
  refine ⟨by rw [F.all_length]; rfl, .inr ⟨g, 1, cs, rfl, hb, h, Nat.le_refl _, by unfold maxLen; omega, ?_, ?_⟩⟩
  · have := hl
    simp at this
    rw [this, Nat.one_mul]
  · rw [F.all_one, Nat.one_mul, ← hc, ← hl, List.take_length]

theorem vownNone (w : World) (base : Nat) : VOwn w base none 0 0 none 0 0 ⟨[], []⟩ := ⟨World.ownsRow_nil _ _ _ _, World.ownsRow_nil _ _ _ _, (by intro z hz; cases hz)⟩

set_option maxRecDepth 100000 in
set_option maxHeartbeats 4000000 in
theorem specVtabNew_made (ports : Int) (w : World) :
    Calls Try.prog 27 #[.int .i64 ports] w fun e w' => ∃ a n c o p q, e = .returned (.agg #[.slice a n c, .slice o p q]) ∧ VOwn w' w.heap.size a n c o p q (vtabNew ports) ∧ Below w.heap.size w w' := by
  generalize hw1 : w.alloc (Obj.cells #[Value.slice none 0 0, Value.slice none 0 0] 27) = w1
  have b01 : Below w.heap.size w w1 := by subst hw1; exact below_one _ _
  have k0 : w1.heap[w.heap.size]? = some (.cells #[.slice none 0 0, .slice none 0 0] 27) := by rw [← hw1]; exact block_last _ _
  have z1 : Hid (w.heap.size < w1.heap.size) := hide (by rw [← hw1]; simp)
  cases hin : (decide (1 ≤ ports) && decide (ports ≤ 6))
  · rw [vtabNew_no hin]
    have HIN := hide hin
    clear hin
    obtain ⟨⟨g0, g1⟩, f0, f1⟩ := cells2 k0
    have HB := hide (below_set (below_set b01 (Nat.le_refl _) 0 (.slice none 0 0)) (Nat.le_refl _) 1 (.slice none 0 0))
    go_enter Try.func27, Try.ntmps27
    go_wp2_with (refine (within_any ports 1 6 _).mono ?_; rintro r w2 ⟨rfl, e2⟩; obtain rfl := e2.symm; rw [HIN.out])
    exact bodyPost_ret (v := .agg #[.slice none 0 0, .slice none 0 0]) (by simp [results, Try.results27, go_sem, *]) rfl ⟨_, _, _, _, _, _, rfl, vownNone _ _, HB.out⟩
  · obtain ⟨p, rfl⟩ : ∃ p : Nat, ports = (p : Int) := ⟨ports.toNat, by simp at hin; omega⟩
    rw [vtabNew_yes hin]
    have HIN := hide hin
    have hp : 1 ≤ (p : Int) ∧ (p : Int) ≤ 6 := by simpa using hin
    clear hin
    generalize hw2 : w1.alloc (Obj.cells #[Value.int .i64 1, Value.int .i64 (allOf p), Value.int .i64 (allOf p)] 29) = w2
    have b12 : Below w1.heap.size w1 w2 := by subst hw2; exact below_one _ _
    have k1 : w2.heap[w1.heap.size]? = some (.cells #[.int .i64 1, .int .i64 (allOf p), .int .i64 (allOf p)] 29) := by rw [← hw2]; exact block_last _ _
    generalize hwz : w2.alloc (Obj.cells #[Value.slice none 0 0, Value.slice none 0 0] 27) = wz
    have b2z : Below w2.heap.size w2 wz := by subst hwz; exact below_one _ _
    have kz : wz.heap[w2.heap.size]? = some (.cells #[.slice none 0 0, .slice none 0 0] 27) := by rw [← hwz]; exact block_last _ _
    obtain ⟨⟨j0, j1⟩, j2, j3⟩ := cells2 kz
    generalize hw3 : (wz.setCell ⟨w2.heap.size, 0, none⟩ (Value.slice (some ⟨w1.heap.size, 0, none⟩) 1 1)).setCell ⟨w2.heap.size, 1, none⟩ (Value.slice none 0 0) = w3
    have b23 : Below w2.heap.size w2 w3 := by subst hw3; exact below_set (below_set b2z (Nat.le_refl _) _ _) (Nat.le_refl _) _ _
    have k2 : w3.heap[w2.heap.size]? = some (.cells #[.slice (some ⟨w1.heap.size, 0, none⟩) 1 1, .slice none 0 0] 27) := by
      have h1 := set_block5 (j := 0) kz (Value.slice (some ⟨w1.heap.size, 0, none⟩) 1 1)
      have h2 := set_block5 (j := 1) h1 (Value.slice none 0 0)
      rw [hw3] at h2
      exact h2
    have hR : w3.ownsRow w1.heap.size 29 3 (.slice (some ⟨w1.heap.size, 0, none⟩) 1 1) 1 (vrowF.all [⟨1, allOf p, allOf p⟩]) := gown_below (own_one vrowF (x := ⟨1, allOf p, allOf p⟩) k1 rfl (Nat.le_refl _)) b23
    have b13 := gr_trans b12 b23
    have hall := vall_is p hp.1 hp.2
    have X2 : Hid (w1.heap.size ≤ w2.heap.size) := hide b12.size
    have hwp : IntKind.u64.wrap (p : Int) = (p : Int) := by rw [IntKind.wrap_u64]; omega
    go_enter Try.func27, Try.ntmps27
    go_wp2_with (refine (within_any (p : Int) 1 6 _).mono ?_; rintro r wy ⟨rfl, ey⟩; obtain rfl := ey.symm; rw [HIN.out])
    go_wp2
    rw [hall]
    clear j0 j1 j2 j3
    go_loopw [5] (fun i wr => ∃ (k : Nat) (o : Option Addr) (q : Nat), k ≤ p ∧ i = .int .i64 k ∧ wr.heap[w2.heap.size]? = some (.cells #[.slice (some ⟨w1.heap.size, 0, none⟩) 1 1, .slice o k q] 27) ∧ wr.ownsRow w1.heap.size 29 3 (.slice (some ⟨w1.heap.size, 0, none⟩) 1 1) 1 (vrowF.all [⟨1, allOf p, allOf p⟩]) ∧ wr.ownsRow w1.heap.size 3 1 (.slice o k q) k (intF.all (List.replicate k 1)) ∧ Below w1.heap.size w1 wr) (fun i _ => p - (intOf i).toNat)
    case atStart => exact ⟨0, none, 0, Nat.zero_le _, rfl, k2, hR, World.ownsRow_nil _ _ _ _, b13⟩
    case round =>
      obtain ⟨k, o, q, hk, rfl, kX, hRr, hI, hb⟩ := hrel
      by_cases hlt : k < p
      · obtain ⟨⟨x0, x1⟩, -⟩ := cells2 kX
        generalize hwa : wr.alloc (Obj.cells #[Value.int .i64 1] 3) = wa
        have bra : Below wr.heap.size wr wa := by subst hwa; exact below_one _ _
        have ka : wa.heap[wr.heap.size]? = some (.cells #[.int .i64 1] 3) := by rw [← hwa]; exact block_last _ _
        have gone : GRow intF wa (some ⟨wr.heap.size, 0, none⟩) 1 1 [1] := grow_own (F := intF) (own_one intF (x := 1) (base := 0) ka rfl (Nat.zero_le _))
        have hba := gr_trans hb bra
        have HR2 := hide (gown_below hRr bra)
        have hI2 := gown_below hI bra
        have HI0 := hide hI2
        have HKX := hide (kept_block kX bra)
        have HBA := hide hba
        clear hRr hI kX hb hba k2 hR
        go_wp2_with (at_builtin; refine wpList_append_flat (F := intF) _ rfl _ _ 25 3 rfl w1.heap.size Try.underlying25 Try.infoI64 rfl (by decide) _ k (List.replicate k 1) rfl hI2 (some ⟨wr.heap.size, 0, none⟩) 1 1 [1] rfl gone (by omega) HBA.out.size ?_)
        intro a7 c7 w7 how hr hgr hb7
        have hown2 := gown_type HR2.out HI0.out (by decide) hgr
        have kX7 := kept_grown HKX.out hgr (fun j hj => box_ne HI0.out HKX.out (by decide) j hj)
        obtain ⟨⟨y0, y1⟩, f0, f1⟩ := cells2 kX7
        have HO : Hid ((w7.setCell ⟨w2.heap.size, 1, none⟩ (.slice a7 (k + 1) c7)).ownsRow w1.heap.size 3 1 (.slice a7 (k + 1) c7) (k + 1) (intF.all (List.replicate (k + 1) 1))) := hide (by
          rw [List.replicate_succ']
          exact gown_other how (grown_set (rb := w2.heap.size) 1 _) (box_ne how kX7 (by decide)))
        have HR3 := hide (gown_other hown2 (grown_set (rb := w2.heap.size) 1 (.slice a7 (k + 1) c7)) (box_ne hown2 kX7 (by decide)))
        have HK3 : Hid ((w7.setCell ⟨w2.heap.size, 1, none⟩ (.slice a7 (k + 1) c7)).heap[w2.heap.size]? = some (.cells #[.slice (some ⟨w1.heap.size, 0, none⟩) 1 1, .slice a7 (k + 1) c7] 27)) := hide (set_block2 kX7 _)
        have HB3 := hide (below_set (HBA.out.trans hb7) X2.out 1 (.slice a7 (k + 1) c7))
        clear how hr hgr hb7 hown2 hI2 x0 x1 gone ka
        go_wp2
        go_roundw
        case rel => exact ⟨k + 1, a7, c7, by omega, by go_num, HK3.out, HR3.out, HO.out, HB3.out⟩
        case measure => simp [intOf]; omega
      · have hkp : k = p := by omega
        subst hkp
        obtain ⟨⟨x0, x1⟩, -⟩ := cells2 kX
        obtain ⟨⟨g0, g1⟩, f0, f1⟩ := cells2 (kept_block k0 hb)
        have hV : VOwn wr w1.heap.size (some ⟨w1.heap.size, 0, none⟩) 1 1 o k q ⟨[⟨1, allOf k, allOf k⟩], List.replicate k 1⟩ := ⟨hRr, (by rw [← intF_all]; exact hI), ones_i64 _⟩
        have HO := hide ((hV.set2 (g := w.heap.size) z1.out (.slice (some ⟨w1.heap.size, 0, none⟩) 1 1) (.slice o k q)).lt (base' := w.heap.size) b01.size)
        have HB := hide (below_set (below_set (gr_trans b01 hb) (Nat.le_refl _) 0 (.slice (some ⟨w1.heap.size, 0, none⟩) 1 1)) (Nat.le_refl _) 1 (.slice o k q))
        clear hV hRr hI hb k2 hR
        go_wp2
        exact bodyPost_ret (v := .agg #[.slice (some ⟨w1.heap.size, 0, none⟩) 1 1, .slice o k q]) (by simp [results, Try.results27, go_sem, *]) rfl ⟨_, _, _, _, _, _, rfl, HO.out, HB.out⟩

end Go.Proofs.Ytafonmfgeecopaa
