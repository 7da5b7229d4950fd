/-
  The program's reader of all binds, by contracts.
-/
import Derived.Test.YtgfkpgdkkmgjkaaGreatDoorPduGet3
namespace Go.Proofs.YtgfkpgdkkmgjkaaGreatDoor
open Go.RowKit

theorem Tryz.infoBind' : (Tryz.prog.info? 84).map (fun i => (i.zero, i.size, i.bytes)) = some (some (.agg #[.slice none 0 0, .int .i64 0, .int .i64 0, .string ⟨#[]⟩, .slice none 0 0]), 5, 80) := by kernel_rfl

/-- What is read so far, and what is still to be read, is what is read of all. -/
structure Reads (F : Nat) (zs : List Int) (t : Int) (ys : List BI) : Prop where
  t : ∃ p : Nat, t = p ∧ p ≤ zs.length ∧ ∃ f, zs.length ≤ p + f ∧ getBs F zs 0 = (getBs f zs t).map (ys.map BI.d ++ ·) ∧ ys.length ≤ p

theorem reads_start (zs : List Int) : Reads zs.length zs 0 [] := ⟨0, rfl, Nat.zero_le _, zs.length, by omega, by simp, Nat.zero_le _⟩

theorem Reads.done {F : Nat} {zs : List Int} {ys : List BI} (h : Reads F zs zs.length ys) : getBs F zs 0 = some (ys.map BI.d) := by
  obtain ⟨p, hp, hpl, f, hf, he, -⟩ := h.t
  rw [he]
  cases f <;> simp [getBs]

theorem getBs_no1 {f : Nat} {zs : List Int} {t : Int} (h : ¬ t = zs.length) (hm : partM zs t 48 = none) : getBs (f + 1) zs t = none := by unfold getBs; rw [if_neg h, hm]
theorem getBs_no2 {f : Nat} {zs : List Int} {t : Int} {b : List Int} {nx : Int} (h : ¬ t = zs.length) (hm : partM zs t 48 = some (b, nx)) (hb : getB b = none) : getBs (f + 1) zs t = none := by unfold getBs; rw [if_neg h, hm]; simp only [hb]
theorem getBs_yes {f : Nat} {zs : List Int} {t : Int} {b : List Int} {nx : Int} {x : BD} (h : ¬ t = zs.length) (hm : partM zs t 48 = some (b, nx)) (hb : getB b = some x) : getBs (f + 1) zs t = (getBs f zs nx).map (x :: ·) := by
  conv => lhs; unfold getBs
  rw [if_neg h, hm]
  simp only [hb]

theorem Reads.step {F : Nat} {zs : List Int} {t : Int} {ys : List BI} (h : Reads F zs t ys) (hz : Byt zs) (hlt : ¬ t = zs.length) :
    (partM zs t 48 = none ∧ getBs F zs 0 = none) ∨ ∃ b nx, getTlv zs t = (48, b, nx, true) ∧ ((getB b = none ∧ getBs F zs 0 = none) ∨ ∃ x, getB b = some x ∧ ∃ q : Nat, nx = q ∧ t < q ∧ q ≤ zs.length ∧ ∀ y : BI, y.d = x → Reads F zs nx (ys ++ [y])) := by
  obtain ⟨p, hp, hpl, f, hf, he, hyl⟩ := h.t
  cases f with
  | zero => omega
  | succ f =>
    cases hm : partM zs t 48 with
    | none => rw [getBs_no1 hlt hm] at he; exact .inl ⟨rfl, he⟩
    | some bn =>
      obtain ⟨b, nx⟩ := bn
      have hT := part_some hm
      refine .inr ⟨b, nx, hT, ?_⟩
      cases hb : getB b with
      | none => rw [getBs_no2 hlt hm hb] at he; exact .inl ⟨rfl, he⟩
      | some x =>
        rw [getBs_yes hlt hm hb] at he
        obtain ⟨p', q, hp', hq, hpq, hql, -, -⟩ := tlv_lies hz hT
        refine .inr ⟨x, rfl, q, hq, by omega, hql, ?_⟩
        intro y hy
        refine ⟨q, hq, hql, f, by omega, ?_, by simp; omega⟩
        rw [he, Option.map_map]
        congr 1
        funext r
        simp [hy]

theorem Reads.at {F : Nat} {zs : List Int} {t : Int} {ys : List BI} (h : Reads F zs t ys) : ∃ p : Nat, t = p ∧ p ≤ zs.length ∧ ys.length ≤ p := by
  obtain ⟨p, hp, hpl, -, -, -, hy⟩ := h.t
  exact ⟨p, hp, hpl, hy⟩

theorem bind_news (w : World) (y : BI) : ∀ (j : Nat) (u : Value), y.cs[j]? = some u → (w.alloc (.cells #[.slice y.oa y.on y.oc, .int .i64 y.K, .int .i64 y.N, .string y.S, .slice y.za y.zn y.zc] 84)).cell? ((⟨w.heap.size, 0, none⟩ : Addr).add j) = some u := by
  intro j u hu
  obtain ⟨⟨c0, c1, c2, c3, c4⟩, -⟩ := cells5 (block_last w (.cells #[.slice y.oa y.on y.oc, .int .i64 y.K, .int .i64 y.N, .string y.S, .slice y.za y.zn y.zc] 84))
  rw [add_none, Nat.zero_add]
  match j, hu with
  | 0, hu => rw [c0]; exact hu
  | 1, hu => rw [c1]; exact hu
  | 2, hu => rw [c2]; exact hu
  | 3, hu => rw [c3]; exact hu
  | 4, hu => rw [c4]; exact hu
  | k + 5, hu => simp [BI.cs] at hu

theorem cs_oneCell (y : BI) : ∀ u ∈ y.cs, u.oneCell' = true := by
  intro u hu
  simp only [BI.cs, List.mem_cons, List.not_mem_nil, or_false] at hu
  rcases hu with rfl | rfl | rfl | rfl | rfl <;> rfl

theorem own_slice {w : World} {base : Nat} {e : TypeId} {s : Nat} {v : Value} {n : Nat} {xs : List Value} (h : w.ownsRow base e s v n xs) : ∃ ao cap, v = .slice ao n cap := by
  rcases h.2 with ⟨rfl, rfl⟩ | ⟨g, cap, cur, rfl, _⟩
  · exact ⟨_, _, rfl⟩
  · exact ⟨_, _, rfl⟩

theorem O_below {w w' : World} {base : Nat} {ao : Option Addr} {n cap : Nat} {l : List BI} (h : BOwns w base ao n cap l) (hg : w.grownBy w' (Value.slice ao n cap).ownBlock) (hb : base ≤ w.heap.size) : Below base w w' :=
  (Only.of_grown hg).below hb (fun b hb => (h.row.lt b (mem_blkL.2 hb)).1)

/-- The binds so far. -/
def Held (w wr : World) (rb : Nat) (ao : Option Addr) (n c : Nat) (zs : List Int) (v : Value) : Prop :=
  ∃ t ys lo cap, v = .slice lo ys.length cap ∧ Reads n zs t ys ∧ Rdr wr rb ao n c zs t ∧ BOwns wr (w.heap.size + 1) lo ys.length cap ys

set_option maxRecDepth 100000 in
set_option maxHeartbeats 4000000 in
theorem readBinds_any (ao : Option Addr) (n c : Nat) (zs : List Int) (r : Option (List BD)) (hr0 : getBs n zs 0 = r) (w : World) (hr : Row w ao n c zs) (hs : n ≤ 1048576) :
    Calls Tryz.prog 116 #[.slice ao n c] w fun e w' => ((r = none ∧ GaveUp e) ∨ ∃ ys lo cap, r = some (ys.map BI.d) ∧ e = .returned (.slice lo ys.length cap) ∧ BOwns w' (w.heap.size + 1) lo ys.length cap ys) ∧ Below w.heap.size w w' := by
  obtain ⟨i0, hi, hz0, hz1, hz2⟩ := info_parts Tryz.infoBind'
  have hzl := hr.size
  have hby := hr.byte
  have q0 := below_one w (.cells #[.slice ao n c, .int .i64 0] 161)
  have HR0 := hide hr0
  have hst : Held w (w.alloc (.cells #[.slice ao n c, .int .i64 0] 161)) w.heap.size ao n c zs (.slice none 0 0) := ⟨0, [], none, 0, rfl, by rw [← hzl]; exact reads_start zs, ⟨block_last w _, hr.below q0, hs⟩, bowns_nil _ _⟩
  clear hr0
  go_enter Tryz.func116, Tryz.ntmps116
  go_wp2
  go_loopw [4] (fun v wr => Held w wr w.heap.size ao n c zs v ∧ Below w.heap.size w wr) (fun _ wr => n - (intOf ((wr.cell? ⟨w.heap.size, 1, none⟩).getD (.int .i64 0))).toNat)
  case atStart => exact ⟨hst, q0⟩
  case round =>
    obtain ⟨⟨t, ys, lo, cap, rfl, hrd, hR, hbo⟩, hb⟩ := hrel
    clear hst
    obtain ⟨p, hp, hpl, hyp⟩ := hrd.at
    have hcell : wr.cell? ⟨w.heap.size, 1, none⟩ = some (.int .i64 t) := (cells2 hR.box).1.2
    have HC := hide hcell
    have HRD := hide hrd
    have HB := hide hb
    have hbs := hb.size
    have hlb : w.heap.size < wr.heap.size := (Array.getElem?_eq_some_iff.1 hR.box).1
    clear hrd hb hcell
    go_wp2_with fail
    refine (more_any w.heap.size ao n c zs t _ hR).mono ?_
    rintro e w1 ⟨rfl, hb1⟩
    have hR1 := hR.below hb1
    have hbo1 := hbo.below hb1
    have b1 := HB.out.trans (hb1.mono hbs)
    by_cases hlt : t < n
    · rw [decide_eq_true hlt]
      have hne : ¬ t = zs.length := by omega
      rcases HRD.out.step hby hne with ⟨hno, hnone⟩ | ⟨b, nx, hT, hrest⟩
      · have HNO := hide hno
        have HNN := hide (HR0.out.symm.trans hnone)
        clear hno hnone HRD
        go_wp2_with fail
        refine (part_no w.heap.size ao n c zs t 48 HNO.out _ hR1).mono ?_
        rintro e w2 ⟨⟨S, rfl⟩, g2⟩
        go_wp2
        exact ⟨rfl, .inl ⟨HNN.out, ⟨_, rfl⟩⟩, belowGr b1 g2 (Nat.le_refl _)⟩
      · have hbl := tlv_short hby hT
        have HT := hide hT
        clear hT
        rcases hrest with ⟨hbn, hnone⟩ | ⟨x, hbx, q, hq, htq, hql, hnext⟩
        · have HBN := hide hbn
          have HNN := hide (HR0.out.symm.trans hnone)
          clear hbn hnone HRD
          go_wp2_with fail
          refine (part_yes w.heap.size ao n c zs t 48 b nx HT.out _ hR1).mono ?_
          rintro e w2 ⟨bo, bc, rfl, r2, h2, g2⟩
          have b2 := belowGr b1 g2 (Nat.le_refl _)
          go_wp2_with fail
          refine (readBind_no _ _ _ b HBN.out _ r2 (by omega)).mono ?_
          rintro e w3 ⟨⟨S, rfl⟩, hb3⟩
          go_wp2
          exact ⟨rfl, .inl ⟨HNN.out, ⟨_, rfl⟩⟩, b2.trans (hb3.mono b2.size)⟩
        · have HBX := hide hbx
          have HNEXT := hide hnext
          clear hbx hnext HRD
          go_wp2_with fail
          refine (part_yes w.heap.size ao n c zs t 48 b nx HT.out _ hR1).mono ?_
          rintro e w2 ⟨bo, bc, rfl, r2, h2, g2⟩
          have b2 := belowGr b1 g2 (Nat.le_refl _)
          have hbo2 := hbo1.only (Only.of_grown (ao := some ⟨w.heap.size, 0, none⟩) (n := 0) (c := 0) g2) (fun b hb hc => by have := (hbo1.blk b hb).1; simp [blkL] at hc; omega)
          go_wp2_with fail
          refine (readBind_yes _ _ _ b x HBX.out _ r2 (by omega)).mono ?_
          rintro e w3 ⟨y, rfl, hyd, hnew, hb3⟩
          have h3 := h2.below hb3
          have b3 := b2.trans (hb3.mono b2.size)
          have hbo3 := hbo2.below hb3
          have q3 := below_one w3 (.cells #[.slice y.oa y.on y.oc, .int .i64 y.K, .int .i64 y.N, .string y.S, .slice y.za y.zn y.zc] 84)
          have HB4 := hide (b3.trans (q3.mono b3.size))
          have HR4 := hide (h3.below q3)
          have HBO4 := hide (hbo3.below q3)
          have hw2 : w.heap.size + 1 ≤ w2.heap.size := by have := g2.size; have := hb1.size; omega
          have HN4 : Hid (BOwn (w3.alloc (.cells #[.slice y.oa y.on y.oc, .int .i64 y.K, .int .i64 y.N, .string y.S, .slice y.za y.zn y.zc] 84)) (w.heap.size + 1) y) := hide ((hnew.own.below q3).lt hw2)
          have HAP : Hid (∀ z ∈ ys, ∀ b ∈ z.blks, b ∉ y.blks) := hide (fun z hz b hb hc => by have h1 := ((hbo2.item z hz).blk b hb).2; have h2 := (hnew.own.blk b hc).1; omega)
          have HND := hide hnew.nd
          have HYD := hide hyd
          have hrow4 := (hbo3.below q3).row
          have hsz4 : w.heap.size + 1 ≤ (w3.alloc (.cells #[.slice y.oa y.on y.oc, .int .i64 y.K, .int .i64 y.N, .string y.S, .slice y.za y.zn y.zc] 84)).heap.size := by have := hb3.size; simp; omega
          clear hR hR1 hbo hbo1 hbo2 hbo3 b1 b2 b3 h2 h3 hb1 hb3 g2 r2 q3 hnew hyd
          go_wp2_with (at_builtin; refine wpList_append_own _ rfl _ _ 24 rfl (w.heap.size + 1) 84 i0 (.agg #[.slice none 0 0, .int .i64 0, .int .i64 0, .string ⟨#[]⟩, .slice none 0 0]) 5 80 Tryz.underlying24 hi hz0 hz1 hz2 rfl (by decide) _ ys.length (cBs ys) rfl hrow4 ⟨w3.heap.size, 0, none⟩ 1 1 y.cs rfl rfl (bind_news w3 y) (cs_oneCell y) ?c1 ?c2 ?c3 ?_)
          case c1 => unfold maxLen; omega
          case c2 => omega
          case c3 => exact hsz4
          intro v' w5 how hgr _
          obtain ⟨lo', cap', rfl⟩ := own_slice how
          have hpush := HBO4.out.push HN4.out HND.out HAP.out hgr how
          have hR5 : Rdr w5 w.heap.size ao n c zs nx := by
            have O := Only.of_grown hgr
            have hnb : w.heap.size ∉ blkL lo := fun hc => by have := (HBO4.out.row.lt w.heap.size (mem_blkL.2 hc)).1; omega
            have bw : Below (w.heap.size + 1) (w3.alloc (.cells #[.slice y.oa y.on y.oc, .int .i64 y.K, .int .i64 y.N, .string y.S, .slice y.za y.zn y.zc] 84)) w5 := O.below hsz4 (fun b hb => (HBO4.out.row.lt b (mem_blkL.2 hb)).1)
            exact ⟨O.kept HR4.out.box hnb, hr.below (HB4.out.trans (bw.mono (by omega))), hs⟩
          have HB5 := hide (HB4.out.trans ((O_below HBO4.out hgr hsz4).mono (by omega)))
          have HP5 := hide hpush
          have HR5 := hide hR5
          have HC5 := hide (cells2 hR5.box).1.2
          clear how hgr hpush hR5
          go_wp2
          go_roundw
          case rel => exact ⟨⟨nx, ys ++ [y], lo', cap', by simp, HNEXT.out y HYD.out, HR5.out, by simpa using HP5.out⟩, HB5.out⟩
          case measure =>
            rw [HC5.out, HC.out]
            simp only [Option.getD_some, intOf]
            omega
    · rw [decide_eq_false hlt]
      have ht : t = zs.length := by omega
      subst ht
      have HF := hide (HR0.out.symm.trans HRD.out.done)
      clear HRD HC hR1
      go_wp2
      go_ret
      exact ⟨.inr ⟨ys, lo, cap, HF.out, rfl, hbo1⟩, b1⟩

end Go.Proofs.YtgfkpgdkkmgjkaaGreatDoor
