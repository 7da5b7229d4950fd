/-
  The iterator over a name's bytes by its contract, and the program's GetOid.
-/
import Derived.Test.YtfjojchenmdhdaaOidNum
import Derived.Test.YtfjojchenmdhdaaGather
namespace Go.Proofs.Ytfjojchenmdhdaa
open Go.RowKit Go.Shelf

attribute [local go_sem] Oper.semAt_some

/-- All that is handed out of the bytes z. -/
def Came (z : List Int) (ys : List (Int × Bool)) : Prop := (∀ x ∈ ys, 0 ≤ x.1 ∧ x.1 ≤ 12800127) ∧ (((∀ x ∈ ys, x.2 = true) ∧ flatO (nums ys) = z) ∨ ((∃ x ∈ ys, x.2 = false) ∧ NoOid z))
/-- A part of it. -/
def Prt (z : List Int) (ys : List (Int × Bool)) : Prop := (∀ x ∈ ys, 0 ≤ x.1 ∧ x.1 ≤ 12800127) ∧ (((∀ x ∈ ys, x.2 = true) ∧ ∃ rest, flatO (nums ys) ++ rest = z) ∨ NoOid z)

theorem nums_pos {ys : List (Int × Bool)} (h : ∀ x ∈ ys, 0 ≤ x.1 ∧ x.1 ≤ 12800127) : ∀ z ∈ nums ys, 0 ≤ z := by
  intro z hz
  simp only [nums, List.mem_map] at hz
  obtain ⟨y, hy, rfl⟩ := hz
  exact (h y hy).1

theorem came_is {z : List Int} {ys : List (Int × Bool)} (h : Came z ys) (ha : ∀ x ∈ ys, x.2 = true) : getO z = if oidOk (nums ys) = true then some (nums ys) else none := by
  obtain ⟨hr, ⟨_, hf⟩ | ⟨⟨x, hx, h0⟩, _⟩⟩ := h
  · by_cases hok : oidOk (nums ys) = true
    · rw [if_pos hok]; exact getO_some hok hf
    · rw [if_neg hok]; exact getO_none (none_not hf (nums_pos hr) hok)
  · rw [ha x hx] at h0; cases h0

theorem prt_is {z : List Int} {pre : List (Int × Bool)} (h : Prt z pre) (hb : Bad pre) : getO z = none := by
  obtain ⟨hr, ⟨ha, rest, hf⟩ | hn⟩ := h
  · rcases hb with ⟨x, hx, h0⟩ | h0
    · rw [ha x hx] at h0; cases h0
    · exact getO_none (none_long hf (nums_pos hr) (.inl (by rw [nums_length]; exact h0)))
  · exact getO_none hn

theorem all_snoc {p : Int × Bool → Prop} {pre : List (Int × Bool)} {x : Int × Bool} (h : ∀ y ∈ pre, p y) (hx : p x) : ∀ y ∈ pre ++ [x], p y := by
  intro y hy
  rcases List.mem_append.1 hy with h1 | h1
  · exact h y h1
  · simp at h1; rw [h1]; exact hx

/-- What the iterator has handed out when it stands at a place. -/
structure At (z : List Int) (p : Nat) (pre : List (Int × Bool)) : Prop where
  le : p ≤ z.length
  len : pre.length ≤ p
  rng : ∀ x ∈ pre, 0 ≤ x.1 ∧ x.1 ≤ 12800127
  all : ∀ x ∈ pre, x.2 = true
  is : flatO (nums pre) ++ z.drop p = z

theorem At.start (z : List Int) : At z 0 [] := ⟨Nat.zero_le _, Nat.le_refl _, by simp, by simp, by simp [nums, flatO]⟩

theorem At.step {z : List Int} {p : Nat} {pre : List (Int × Bool)} {n q : Int} (h : At z p pre) (hN : Num z p n q true) : ∃ p' : Nat, q = (p' : Int) ∧ p < p' ∧ At z p' (pre ++ [(n, true)]) := by
  obtain ⟨h1, j, hj, hl, rfl, hd⟩ := hN.yes rfl
  refine ⟨p + j, rfl, by omega, hl, ?_, all_snoc h.rng ⟨hN.lo, hN.hi⟩, all_snoc h.all rfl, ?_⟩
  · have := h.len; simp; omega
  · rw [nums_snoc, flat_snoc, List.append_assoc, ← hd]; exact h.is

theorem At.none {z : List Int} {p : Nat} {pre : List (Int × Bool)} {n q : Int} (h : At z p pre) (hp : p < z.length) (hN : Num z p n q false) : NoOid z :=
  none_bad h.is (nums_pos h.rng) (by intro e; have := congrArg List.length e; simp at this; omega) (hN.no rfl)

theorem At.came {z : List Int} {pre : List (Int × Bool)} (h : At z z.length pre) : Came z pre := ⟨h.rng, .inl ⟨h.all, by have := h.is; simpa using this⟩⟩
theorem At.prt {z : List Int} {p : Nat} {pre : List (Int × Bool)} (h : At z p pre) : Prt z pre := ⟨h.rng, .inl ⟨h.all, _, h.is⟩⟩

set_option maxRecDepth 100000 in
set_option maxHeartbeats 2000000 in
theorem bytes_stops (n Bn : Nat) (hn : 1 ≤ n) (a1 : Option Addr) (l1 c1 : Nat) (z1 : List Int) (w : World) (hbox : w.cell? ⟨Bn, 0, none⟩ = some (.slice a1 l1 c1)) (h1 : Row w a1 l1 c1 z1) (hs : l1 ≤ 1048576) (W0 : World) (hW0 : Below w.heap.size w W0) :
    SeqStopsK Fence.wide n Try.prog 83 #[.pointer (some ⟨Bn, 0, none⟩)] encs (Below w.heap.size) (Came z1) (Prt z1) l1 W0 := fun l J Jx W hW _ _ hY h0 => by
  have s1 := h1.size
  have hbW : Below w.heap.size w W := hW0.trans (hW.mono hW0.size)
  have hBn := block_lt hbox
  have hat0 := At.start z1
  clear hW hW0
  refine callsIn_of_wp Try.func83 rfl trivial ?_ rfl
  simp only [Try.ntmps83, List.size_toArray, List.length_cons, List.length_nil, Nat.reduceAdd, Nat.reduceSub, Array.replicate_succ, Array.replicate_zero, List.push_toArray, List.append_toArray, List.nil_append, List.cons_append]
  gi_wp2
  gi_loopw [3] (fun i wr => ∃ (p : Nat) (pre : List (Int × Bool)), i = .int .i64 p ∧ At z1 p pre ∧ J pre wr ∧ Below w.heap.size w wr) (fun i _ => l1 - (intOf i).toNat)
  case atStart => exact ⟨0, [], rfl, hat0, h0, hbW⟩
  case round =>
    obtain ⟨p, pre, rfl, hat, hJ, hb⟩ := hrel
    have cb : wr.cell? ⟨Bn, 0, none⟩ = some (.slice a1 l1 c1) := by rw [hb.cell (p := ⟨Bn, 0, none⟩) hBn]; exact hbox
    have hle := hat.le
    rw [s1] at hle
    by_cases hlt : p < l1
    · have hrow := h1.below hb
      have hlen : pre.length < l1 := by have := hat.len; omega
      gi_wp2
      refine ⟨trivial, (callsIn_wide.2 (numAt_any a1 l1 c1 z1 p wr hrow hlt hs)).mono ?_⟩
      rintro e w' ⟨⟨k, q, ok, rfl, hN⟩, hw'⟩
      subst hw'
      cases ok with
      | true =>
        obtain ⟨p', rfl, hp', hat'⟩ := hat.step hN
        obtain ⟨fn, tmps, assign, body, hy, hR⟩ := hY pre (k, true) _ hJ hlen
        dsimp only [encs] at hy
        clear hN hJ hrow
        gi_wp2
        refine hR.mono ?_
        rintro e W3 (⟨rfl, hJ3, hk3⟩ | ⟨rfl, hJx3⟩)
        · gi_wp2
          go_roundw
          case rel => exact ⟨p', _, rfl, hat', hJ3, hb.trans hk3⟩
          case measure => have := hat'.le; simp [intOf]; omega
        · gi_wp2
          refine bodyPost_ret (results_none rfl _ _ _) rfl ?_
          exact ⟨⟨_, rfl⟩, .inr ⟨_, hat'.prt, hJx3⟩⟩
      | false =>
        have hno := hat.none (by omega) hN
        have hrg : ∀ x ∈ pre ++ [(k, false)], 0 ≤ x.1 ∧ x.1 ≤ 12800127 := all_snoc hat.rng ⟨hN.lo, hN.hi⟩
        obtain ⟨fn, tmps, assign, body, hy, hR⟩ := hY pre (k, false) _ hJ hlen
        dsimp only [encs] at hy
        clear hN hJ hrow
        gi_wp2
        refine hR.mono ?_
        rintro e W3 (⟨rfl, hJ3, hk3⟩ | ⟨rfl, hJx3⟩)
        · gi_wp2
          refine bodyPost_ret (results_none rfl _ _ _) rfl ?_
          exact ⟨⟨_, rfl⟩, .inl ⟨_, ⟨hrg, .inr ⟨⟨(k, false), by simp, rfl⟩, hno⟩⟩, hJ3⟩⟩
        · gi_wp2
          refine bodyPost_ret (results_none rfl _ _ _) rfl ?_
          exact ⟨⟨_, rfl⟩, .inr ⟨_, ⟨hrg, .inr hno⟩, hJx3⟩⟩
    · have hp : p = z1.length := by omega
      rw [hp] at hat
      gi_wp2
      go_end0
      exact ⟨⟨_, rfl⟩, .inl ⟨pre, hat.came, hJ⟩⟩

set_option maxRecDepth 100000 in
set_option maxHeartbeats 400000 in
theorem inBytes_any (a1 : Option Addr) (l1 c1 : Nat) (w : World) :
    Calls Try.prog 82 #[.slice a1 l1 c1] w fun e w' => e = .returned (.func (.func 83) #[] #[.pointer (some ⟨w.heap.size, 0, none⟩)]) ∧ w' = w.alloc (.cells #[.slice a1 l1 c1] 22) := by
  go_enter Try.func82, Try.ntmps82
  go_wp2
  go_ret
  exact ⟨rfl, rfl⟩

/-- The program's GetOid: the name that has these bytes, and true; nothing and false. -/
theorem implGetO_made (a1 : Option Addr) (l1 c1 : Nat) (z1 : List Int) (r : Option (List Int)) (hr : getO z1 = r) (w : World) (h1 : Row w a1 l1 c1 z1) (hs : l1 ≤ 1048576) :
    Calls Try.prog 74 #[.slice a1 l1 c1] w fun e w' => ∃ ao cap, e = .returned (.tuple #[.slice ao (r.getD []).length cap, .bool r.isSome]) ∧
      w'.ownsRow w.heap.size 3 1 (.slice ao (r.getD []).length cap) (r.getD []).length (cI (r.getD [])) ∧ Below w.heap.size w w' := by
  have hb1 : Below w.heap.size w (w.alloc (.cells #[.slice a1 l1 c1] 22)) := (Below.refl _ _).alloc (Nat.le_refl _) _
  have hbox : (w.alloc (.cells #[.slice a1 l1 c1] 22)).cell? ⟨w.heap.size, 0, none⟩ = some (.slice a1 l1 c1) := (Boxed.new w _ _).cell
  have hsz : (w.alloc (.cells #[.slice a1 l1 c1] 22)).heap.size = w.heap.size + 1 := by simp
  have hrow := h1.below hb1
  have hg := callsIn_wide.1 (gather_in 83 #[.pointer (some ⟨w.heap.size, 0, none⟩)] 4 (by omega) (enters_of Try.func83 (by kernel_rfl) rfl) (Came z1) (Prt z1) l1
    (fun ys h x hx => by have := h.1 x hx; omega) _ r (fun ys h ha => by rw [← hr]; exact came_is h ha) (fun pre h hb => by rw [← hr]; exact prt_is h hb) (fun W hW => bytes_stops 3 _ (by omega) a1 l1 c1 z1 _ hbox hrow hs W hW))
  have HG := hide hg
  clear hg
  go_enter Try.func74, Try.ntmps74
  go_wp2_with fail
  refine (inBytes_any a1 l1 c1 _).mono ?_
  rintro e w1 ⟨rfl, rfl⟩
  go_wp2_with fail
  refine HG.out.mono ?_
  rintro e w2 ⟨ao, cap, rfl, how, hb2⟩
  have hbn : Below w.heap.size w w2 := hb1.trans (hb2.mono (by omega))
  have hown := own_lt how (base' := w.heap.size) (by omega)
  clear how hb2 HG
  go_wp2
  go_ret2
  exact ⟨ao, cap, rfl, hown, hbn⟩

end Go.Proofs.Ytfjojchenmdhdaa
