/-
  A name's bytes, by contracts: the specification's and the program's PutOid.
-/
import Derived.Test.YtamglfhnhjgdjaaGroup
import Derived.Test.YtamglfhnhjgdjaaOidOk
namespace Go.Proofs.Ytamglfhnhjgdjaa
open Go.RowKit

theorem flat_byte (o : List Int) : Byt (flatO o) := by
  intro z hz
  simp only [flatO, List.mem_flatten, List.mem_map] at hz
  obtain ⟨l, ⟨n, _, rfl⟩, h⟩ := hz
  exact groups_byte _ z h

theorem put_byte (o : List Int) : Byt (putO o) := by
  unfold putO
  split
  · exact flat_byte o
  · intro z hz; cases hz

theorem flat_length : ∀ (o : List Int), (∀ z ∈ o, 0 ≤ z ∧ z ≤ 100000) → (flatO o).length ≤ 3 * o.length
  | [], _ => by simp [flatO]
  | z :: o, h => by
    rw [flat_cons, List.length_append]
    have h1 := flat_length o (fun y hy => h y (List.mem_cons_of_mem _ hy))
    have h2 := h z (by simp)
    have h3 := groups_short (n := z.toNat) (by omega)
    simp only [List.length_cons]
    omega

theorem put_length (o : List Int) : (putO o).length ≤ 30 := by
  unfold putO
  split
  · rename_i h
    obtain ⟨h1, h2, h3⟩ := ok_all h
    have := flat_length o h1
    omega
  · simp

theorem flat_take {o : List Int} {k : Nat} (h : k < o.length) : flatO (o.take (k + 1)) = flatO (o.take k) ++ groups (o.getD k 0).toNat := by
  rw [take_succ_getD _ _ h, flat_snoc]

theorem flat_take_length {o : List Int} (h : ∀ z ∈ o, 0 ≤ z ∧ z ≤ 100000) (hl : o.length ≤ 10) (k : Nat) : (flatO (o.take k)).length ≤ 30 := by
  have := flat_length (o.take k) (fun z hz => h z (List.mem_of_mem_take hz))
  have : (o.take k).length ≤ 10 := by simp; omega
  omega

theorem getD_mem {o : List Int} {k : Nat} (h : k < o.length) : o.getD k 0 ∈ o := by
  rw [List.getD_eq_getElem?_getD, List.getElem?_eq_getElem h]; exact List.getElem_mem h

set_option maxRecDepth 100000 in
set_option maxHeartbeats 1000000 in
theorem specPut_any (a1 : Option Addr) (l1 c1 : Nat) (z1 P : List Int) (hP : putO z1 = P) (w : World) (h1 : IRow w a1 l1 c1 z1) :
    Calls Try.prog 67 #[.slice a1 l1 c1] w fun e w' => ∃ v, e = .returned v ∧ w'.ownsRow w.heap.size 5 1 v P.length (cB P) ∧ Below w.heap.size w w' := by
  have s1 := h1.size
  by_cases hok : oidOk z1 = true
  · obtain ⟨hz, hl1, hl2⟩ := ok_all hok
    rw [put_ok hok] at hP
    have HP := hide hP
    have hft := flat_take_length hz hl2
    clear hP
    have hcell := h1.cell
    have hrow := h1.below ((Below.refl _ _).alloc (Nat.le_refl w.heap.size) (.cells #[] 5))
    have HOK := hide hok
    clear hok
    go_enter Try.func67, Try.ntmps67
    go_wp2_with fail
    refine (specOk_any _ _ _ z1 _ hrow).mono ?_
    rintro e w1 ⟨rfl, rfl⟩
    rw [HOK.out]
    have HZ := hide hz
    have HFT := hide hft
    clear hz hft hrow
    go_wp2
    go_loopw [3, 4] (fun v i wr => ∃ k : Nat, k ≤ l1 ∧ i = .int .i64 k ∧ wr.ownsRow w.heap.size 5 1 v (flatO (z1.take k)).length (cB (flatO (z1.take k))) ∧ Below w.heap.size w wr) (fun _ i _ => l1 - (intOf i).toNat)
    case atStart => exact ⟨0, Nat.zero_le _, rfl, World.ownsRow_lit w #[] 0 (Nat.le_refl _) (Nat.zero_le _) rfl, (Below.refl _ _).alloc (Nat.le_refl _) _⟩
    case round =>
      obtain ⟨k, hk, rfl, how, hb⟩ := hrel
      have hby := flat_byte (z1.take k)
      by_cases hlt : k < l1
      · obtain ⟨ao, cp, rfl, hrow⟩ := row_of_own how hby
        rcases hcell with h0 | ⟨b, off, rfl, hc⟩
        · omega
        have cx : wr.cell? ⟨b, off + k, none⟩ = some (.int .i64 (z1.getD k 0)) := by rw [hb.cell (block_lt (hc k hlt))]; exact hc k hlt
        have hx := HZ.out (z1.getD k 0) (getD_mem (by omega))
        have hf := flat_take (o := z1) (k := k) (by omega)
        have hlen := HFT.out k
        have hbw := hb.size
        clear hc
        generalize z1.getD k 0 = x at cx hx hf
        generalize hG : groups x.toNat = G at hf
        have HG := hide hG
        have hg3 := groups_short (n := x.toNat) (by omega)
        rw [hG] at hg3
        generalize flatO (z1.take k) = F at how hrow hby hlen hf
        have HF := hide hf
        clear hG hf
        go_wp2_with fail
        refine (specGroup_made x G HG.out _ (by omega) (by omega)).mono ?_
        rintro e w2 ⟨ao2, cp2, rfl, -, r2, hb2⟩
        have hs2 := hb2.size
        have how2 := own_below how hb2
        go_wp2_with (at_builtin; refine wpList_append_row _ rfl _ _ 37 rfl w.heap.size Try.underlying37 Try.infoU8 _ F.length F rfl how2 hby ao2 G.length cp2 G rfl r2 (by omega) (by omega) ?_)
        intro ao3 cp3 w3 how3 r3 hb3
        have hbn : Below w.heap.size w w3 := (hb.trans (hb2.mono hbw)).trans hb3
        have how4 : w3.ownsRow w.heap.size 5 1 (.slice ao3 (F.length + G.length) cp3) (flatO (z1.take (k + 1))).length (cB (flatO (z1.take (k + 1)))) := by
          rw [HF.out, List.length_append]; exact how3
        clear how how2 how3 r3 hb hb2 hb3 hrow r2
        go_wp2
        go_roundw
        case rel => exact ⟨k + 1, by omega, by go_num, how4, hbn⟩
        case measure => simp [intOf]; omega
      · have hk' : k = l1 := by omega
        have he : flatO (z1.take k) = P := by rw [hk', ← s1, List.take_length]; exact HP.out
        rw [he] at how hby
        obtain ⟨ao, cp, rfl, hrow⟩ := row_of_own how hby
        clear he
        go_wp2
        go_ret
        exact ⟨_, rfl, how, hb⟩
  · have hP0 : P = [] := by rw [← hP]; simp [putO, hok]
    subst hP0
    clear hP
    have hok' : oidOk z1 = false := by simpa using hok
    have HOK := hide hok'
    clear hok hok'
    have hrow := h1.below ((Below.refl _ _).alloc (Nat.le_refl w.heap.size) (.cells #[] 5))
    go_enter Try.func67, Try.ntmps67
    go_wp2_with fail
    refine (specOk_any _ _ _ z1 _ hrow).mono ?_
    rintro e w1 ⟨rfl, rfl⟩
    rw [HOK.out]
    go_wp2
    go_ret
    exact ⟨_, rfl, World.ownsRow_lit w #[] 0 (Nat.le_refl _) (Nat.zero_le _) rfl, (Below.refl _ _).alloc (Nat.le_refl _) _⟩

theorem Row.grown {w w' : World} {ao : Option Addr} {len cap : Nat} {zs : List Int} {g : Nat} (h : Row w ao len cap zs) (hne : ∀ a, ao = some a → a.block ≠ g) (hg : w.grownBy w' (some g)) : Row w' ao len cap zs where
  size := h.size
  le := h.le
  top := h.top
  nil := h.nil
  byte := h.byte
  cell := by
    rcases h.cell with h0 | ⟨b, off, rfl, hc⟩
    · exact .inl h0
    · refine .inr ⟨b, off, rfl, fun i hi => ?_⟩
      have h1 := hc i hi
      have h2 := block_lt h1
      have h3 := hg.block b h2 (by intro e; exact hne _ rfl (by simpa using e))
      rw [← h1]
      unfold World.cell?
      simp only [h3]

theorem Try.infoSl : (Try.prog.info? 37).map (fun i => (i.zero, i.size, i.bytes)) = some (some (.slice none 0 0), 1, 24) := by kernel_rfl

/-- The pieces of a name on their way. -/
structure Part (w wr : World) (o : List Int) (k : Nat) (ps : List Piece) : Prop where
  size : ps.length = k
  own : wr.ownsRow w.heap.size 37 1 (.slice (some ⟨w.heap.size, 0, none⟩) k o.length) k (ps.map fun p => Value.slice p.ao p.len p.cap)
  row : ∀ i, i < k → Row wr (ps.getD i noPiece).ao (ps.getD i noPiece).len (ps.getD i noPiece).cap (ps.getD i noPiece).zs
  far : ∀ i, i < k → ∀ a, (ps.getD i noPiece).ao = some a → a.block ≠ w.heap.size
  is : ps.map Piece.zs = (o.take k).map fun z => groups z.toNat
  len : ∀ p ∈ ps, p.len = p.zs.length

theorem part_flat {w wr : World} {o : List Int} {k : Nat} {ps : List Piece} (h : Part w wr o k ps) (hk : k = o.length) : flat ps k = flatO o ∧ tot ps k = (flatO o).length := by
  have hl : ps.take k = ps := by rw [← h.size, List.take_length]
  have hf : flat ps k = flatO o := by
    unfold flat flatO
    rw [hl, h.is, hk, List.take_length]
  refine ⟨hf, ?_⟩
  rw [← hf]
  unfold tot flat
  rw [hl, List.length_flatten, List.map_map]
  congr 1
  apply List.map_congr_left
  intro p hp
  exact h.len p hp

theorem part_pieces {w wr : World} {o : List Int} {k : Nat} {ps : List Piece} (h : Part w wr o k ps) (hs : k ≤ 1000) : Pieces wr (some ⟨w.heap.size, 0, none⟩) k o.length ps where
  size := h.size
  small := hs
  cell := .inr ⟨w.heap.size, 0, rfl, fun i hi => by
    rw [Nat.zero_add, h.own.cellAt i (by omega)]
    have : i < ps.length := by rw [h.size]; exact hi
    simp [this]⟩
  row := h.row

theorem getD_snoc (ps : List Piece) (p : Piece) (i : Nat) (h : i < ps.length) : (ps ++ [p]).getD i noPiece = ps.getD i noPiece := by
  simp [List.getD_eq_getElem?_getD, List.getElem?_append_left h]
theorem getD_last (ps : List Piece) (p : Piece) : (ps ++ [p]).getD ps.length noPiece = p := by
  simp [List.getD_eq_getElem?_getD]

theorem Part.more {w wr w2 w3 : World} {o : List Int} {k : Nat} {ps : List Piece} {p : Piece} (h : Part w wr o k ps) (hk : k < o.length) (hb : Below wr.heap.size wr w2) (hg : w2.grownBy w3 (some w.heap.size))
    (how : w3.ownsRow w.heap.size 37 1 (.slice (some ⟨w.heap.size, 0, none⟩) (k + 1) o.length) (k + 1) ((ps.map fun p => Value.slice p.ao p.len p.cap) ++ [.slice p.ao p.len p.cap]))
    (hr : Row w2 p.ao p.len p.cap p.zs) (hf : ∀ a, p.ao = some a → a.block ≠ w.heap.size) (hz : p.zs = groups (o.getD k 0).toNat) : Part w w3 o (k + 1) (ps ++ [p]) where
  size := by simp [h.size]
  own := by simpa using how
  row := by
    intro i hi
    by_cases hik : i < k
    · rw [getD_snoc _ _ _ (by rw [h.size]; exact hik)]
      exact ((h.row i hik).below hb).grown (h.far i hik) hg
    · obtain rfl : i = ps.length := by rw [h.size]; omega
      rw [getD_last]
      exact hr.grown hf hg
  far := by
    intro i hi
    by_cases hik : i < k
    · rw [getD_snoc _ _ _ (by rw [h.size]; exact hik)]
      exact h.far i hik
    · obtain rfl : i = ps.length := by rw [h.size]; omega
      rw [getD_last]
      exact hf
  is := by rw [List.map_append, h.is, take_succ_getD _ _ hk, List.map_append]; simp [hz]
  len := by
    intro q hq
    rcases List.mem_append.1 hq with h1 | h1
    · exact h.len q h1
    · simp at h1
      subst h1
      exact hr.size.symm

set_option maxRecDepth 100000 in
set_option maxHeartbeats 1000000 in
theorem implPut_any (a1 : Option Addr) (l1 c1 : Nat) (z1 P : List Int) (hP : putO z1 = P) (w : World) (h1 : IRow w a1 l1 c1 z1) :
    Calls Try.prog 57 #[.slice a1 l1 c1] w fun e w' => ∃ v, e = .returned v ∧ w'.ownsRow w.heap.size 5 1 v P.length (cB P) ∧ Below w.heap.size w w' := by
  have s1 := h1.size
  obtain ⟨i0, hi, hz0, hz1, hz2⟩ := info_parts Try.infoSl
  by_cases hok : oidOk z1 = true
  · obtain ⟨hz, hl1, hl2⟩ := ok_all hok
    have hpl := put_length z1
    rw [hP] at hpl
    rw [put_ok hok] at hP
    have HP := hide hP
    clear hP
    have hcell := h1.cell
    have HOK := hide hok
    clear hok
    go_enter Try.func57, Try.ntmps57
    go_wp2_with fail
    refine (implOk_any _ _ _ z1 _ h1).mono ?_
    rintro e w1 ⟨rfl, rfl⟩
    rw [HOK.out]
    have HZ := hide hz
    clear hz
    go_wp2_with (at_make; refine wpList_make_own _ rfl _ _ 77 rfl w1.heap.size 37 i0 (.slice none 0 0) 1 Try.underlying77 hi hz0 hz1 .i64 .i64 _ l1 rfl rfl rfl ?c1 ?c2 ?c3 ?_)
    case c1 => rw [hz2]; omega
    case c2 => unfold maxLen; omega
    case c3 => exact Nat.le_refl _
    intro w2 how2 hgr2
    have hb2 : Below w1.heap.size w1 w2 := (Below.refl _ _).grown hgr2 (Nat.le_refl _) (by intro k hk; cases hk)
    have hp2 : Part w1 w2 z1 0 [] := ⟨rfl, by rw [s1]; exact how2, (by intro i hi; omega), (by intro i hi; omega), rfl, (by intro p hp; cases hp)⟩
    have hsz : w1.heap.size < w2.heap.size := (how2.lt _ rfl).2
    clear how2 hgr2
    go_wp2
    go_loopw [3, 14] (fun v i wr => ∃ (k : Nat) (ps : List Piece), k ≤ l1 ∧ i = .int .i64 k ∧ v = .slice (some ⟨w1.heap.size, 0, none⟩) k l1 ∧ Part w1 wr z1 k ps ∧ Below w1.heap.size w1 wr ∧ w1.heap.size < wr.heap.size) (fun _ i _ => l1 - (intOf i).toNat)
    case atStart => exact ⟨0, [], Nat.zero_le _, rfl, rfl, hp2, hb2, hsz⟩
    case round =>
      obtain ⟨k, ps, hk, rfl, rfl, hp, hb, hsz⟩ := hrel
      clear hp2 hb2
      by_cases hlt : k < l1
      · rcases hcell with h0 | ⟨b, off, rfl, hc⟩
        · omega
        have cx : wr.cell? ⟨b, off + k, none⟩ = some (.int .i64 (z1.getD k 0)) := by rw [hb.cell (block_lt (hc k hlt))]; exact hc k hlt
        have hx := HZ.out (z1.getD k 0) (getD_mem (by omega))
        have hbw := hb.size
        clear hc
        generalize hxx : z1.getD k 0 = x at cx hx
        have HX := hide hxx
        generalize hG : groups x.toNat = G
        have HG := hide hG
        have hg1 : 1 ≤ G.length := by rw [← hG]; simp [groups]
        have hg3 := groups_short (n := x.toNat) (by omega)
        rw [hG] at hg3
        clear hG hxx
        go_wp2_with fail
        refine (implGroup_made x G HG.out _ (by omega) (by omega)).mono ?_
        rintro e w3 ⟨ao3, cp3, rfl, ho3, r3, hb3⟩
        have hs3 := hb3.size
        have how3 := own_below hp.own hb3
        rw [s1] at how3
        have how4 := how3.alloc (.cells #[.slice ao3 G.length cp3] 37)
        have hfar : ∀ a, ao3 = some a → a.block ≠ w1.heap.size := by
          intro a ha
          subst ha
          have := (ho3.lt a.block rfl).1
          omega
        go_wp2_with (at_builtin; refine wpList_append_fits_any _ rfl _ _ 77 rfl w1.heap.size 37 i0 1 Try.underlying77 hi hz1 w1.heap.size k l1 _ rfl how4 (some ⟨w3.heap.size, 0, none⟩) 1 1 [.slice ao3 G.length cp3] rfl rfl ?e2 ?e3 ?e4 ?e5 ?_)
        case e2 => intro h; cases h
        case e3 => intro ad ha j u hu; cases ha; cases j with
          | zero => simp at hu; subst hu; simp [Addr.add]
          | succ j => simp at hu
        case e4 => intro u hu; simp at hu; subst hu; rfl
        case e5 => omega
        intro w4 how5 hgr5
        rw [← s1] at how5
        have hp4 : Part w1 w4 z1 (k + 1) (ps ++ [⟨ao3, G.length, cp3, G⟩]) :=
          hp.more (by omega) (hb3.trans ((Below.refl _ _).alloc hs3 _)) hgr5 how5 (r3.below ((Below.refl _ _).alloc (Nat.le_refl _) _)) hfar (by rw [HX.out]; exact HG.out.symm)
        have hb4 : Below w1.heap.size w1 w4 := ((hb.trans (hb3.mono hbw)).alloc (by omega) _).grown hgr5 (by simp; omega) (by intro j hj; cases hj; exact Nat.le_refl _)
        have hsz4 : w1.heap.size < w4.heap.size := by have := hgr5.size; simp at this; omega
        clear how3 how4 how5 hgr5 hb3 r3 ho3 hp hb
        go_wp2
        go_roundw
        case rel => exact ⟨k + 1, _, by omega, by go_num, rfl, hp4, hb4, hsz4⟩
        case measure => simp [intOf]; omega
      · obtain rfl : k = l1 := by omega
        obtain ⟨hf1, hf2⟩ := part_flat hp s1.symm
        rw [HP.out] at hf1 hf2
        have hpp := part_pieces hp (by omega)
        rw [s1] at hpp
        have HF1 := hide hf1
        have HF2 := hide hf2
        clear hf1 hf2 hp
        go_wp2_with fail
        refine (pieces_any none 0 0 [] _ _ _ ps _ (row_nil _) hpp (by rw [HF2.out]; omega)).mono ?_
        rintro e w3 ⟨rfl, how3, hb3⟩
        rw [HF1.out, HF2.out, Nat.zero_add, List.nil_append] at how3
        have hbw := hb.size
        have hbn := hb.trans (hb3.mono hbw)
        go_wp2
        go_ret
        exact ⟨_, rfl, by rw [HF2.out]; exact own_lt how3 hbw, hbn⟩
  · have hP0 : P = [] := by rw [← hP]; simp [putO, hok]
    subst hP0
    clear hP
    have hok' : oidOk z1 = false := by simpa using hok
    have HOK := hide hok'
    clear hok hok'
    go_enter Try.func57, Try.ntmps57
    go_wp2_with fail
    refine (implOk_any _ _ _ z1 _ h1).mono ?_
    rintro e w1 ⟨rfl, rfl⟩
    rw [HOK.out]
    go_wp2
    go_ret
    exact ⟨_, rfl, World.ownsRow_nil _ _ _ _, Below.refl _ _⟩

theorem specPut_made (a1 : Option Addr) (l1 c1 : Nat) (z1 P : List Int) (hP : putO z1 = P) (w : World) (h1 : IRow w a1 l1 c1 z1) :
    Calls Try.prog 67 #[.slice a1 l1 c1] w fun e w' => ∃ ao cap, e = .returned (.slice ao P.length cap) ∧
      w'.ownsRow w.heap.size 5 1 (.slice ao P.length cap) P.length (cB P) ∧ Row w' ao P.length cap P ∧ Below w.heap.size w w' := by
  refine (specPut_any a1 l1 c1 z1 P hP w h1).mono ?_
  rintro e w' ⟨v, rfl, ho, hb⟩
  obtain ⟨ao, cap, rfl, hr⟩ := row_of_own ho (by rw [← hP]; exact put_byte _)
  exact ⟨ao, cap, rfl, ho, hr, hb⟩

theorem implPut_made (a1 : Option Addr) (l1 c1 : Nat) (z1 P : List Int) (hP : putO z1 = P) (w : World) (h1 : IRow w a1 l1 c1 z1) :
    Calls Try.prog 57 #[.slice a1 l1 c1] w fun e w' => ∃ ao cap, e = .returned (.slice ao P.length cap) ∧
      w'.ownsRow w.heap.size 5 1 (.slice ao P.length cap) P.length (cB P) ∧ Row w' ao P.length cap P ∧ Below w.heap.size w w' := by
  refine (implPut_any a1 l1 c1 z1 P hP w h1).mono ?_
  rintro e w' ⟨v, rfl, ho, hb⟩
  obtain ⟨ao, cap, rfl, hr⟩ := row_of_own ho (by rw [← hP]; exact put_byte _)
  exact ⟨ao, cap, rfl, ho, hr, hb⟩

end Go.Proofs.Ytamglfhnhjgdjaa
