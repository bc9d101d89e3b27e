/-
  The laws' copies of postings lie in memory of their own, by walks of their Go text.
-/
import Derived.Test.YtfblpbihpmhgjaaDoorBp10
import Derived.Test.YtfblpbihpmhgjaaDoorBp44
namespace Go.Proofs.YtfblpbihpmhgjaaDoor
open Go.RowKit

/-- The legs of posting number j in the row xs lie in a block of their own behind block b. -/
def LegRow (b : Nat) (w : World) (xs : List Value) (j : Nat) : Prop := ∃ g m c, xs[j * 2 + 1]? = some (.slice (some ⟨g, 0, none⟩) m c) ∧ b < g ∧ g < w.heap.size ∧ BlockOf w g 69 (c * 3) ∧ m ≤ c ∧ c ≤ maxLen
/-- The legs of posting number j in block b lie in a block from lo on, below hi. -/
def LegOwn (lo hi b : Nat) (w : World) (j : Nat) : Prop := ∃ g m c, w.cell? ⟨b, j * 2 + 1, none⟩ = some (.slice (some ⟨g, 0, none⟩) m c) ∧ lo ≤ g ∧ g < hi ∧ g ≠ b ∧ BlockOf w g 69 (c * 3) ∧ m ≤ c ∧ c ≤ maxLen
theorem LegRow.below {b : Nat} {w w' : World} {xs : List Value} {j : Nat} (h : LegRow b w xs j) (hb : Below w.heap.size w w') : LegRow b w' xs j := by
  obtain ⟨g, m, c, h0, h1, h2, h3, h4, h5⟩ := h
  exact ⟨g, m, c, h0, h1, Nat.lt_of_lt_of_le h2 hb.size, h3.below hb, h4, h5⟩
theorem LegRow.other {b : Nat} {w : World} {xs : List Value} {j k p : Nat} {o1 o2 : Nat} (h : LegRow b w xs j) (hne : j ≠ k) (u0 u1 : Value) : LegRow b ((w.setCell ⟨p, o1, none⟩ u0).setCell ⟨p, o2, none⟩ u1) ((xs.set (k * 2) u0).set (k * 2 + 1) u1) j := by
  obtain ⟨g, m, c, h0, h1, h2, h3, h4, h5⟩ := h
  refine ⟨g, m, c, ?_, h1, by simpa [World.setCell] using h2, (h3.setCell _).setCell _, h4, h5⟩
  rw [List.getElem?_set_ne (by omega), List.getElem?_set_ne (by omega)]
  exact h0
theorem LegRow.own {b len cap : Nat} {w : World} {xs : List Value} {j : Nat} (h : LegRow b w xs j) (ho : w.ownsRow b 29 2 (.slice (some ⟨b, 0, none⟩) len cap) len xs) (hj : j < len) : LegOwn b w.heap.size b w j := by
  obtain ⟨g, m, c, h0, h1, h2, h3, h4, h5⟩ := h
  exact ⟨g, m, c, (ho.cellAt _ (by omega)).trans h0, by omega, h2, by omega, h3, h4, h5⟩

set_option maxHeartbeats 1000000 in
theorem toLegS_own (a : Option Addr) (len cap : Nat) (L : List LegD) (w : World) (hL : LegsAt w a len cap L) (hbig : len ≤ 1048576) :
    Calls Tryd.prog 49 #[.slice a len cap] w fun e w' => e = .returned (.slice (some ⟨w.heap.size, 0, none⟩) len len) ∧ LegsAt w' (some ⟨w.heap.size, 0, none⟩) len len L ∧ w.heap.size < w'.heap.size ∧ BlockOf w' w.heap.size 69 (len * 3) ∧ Below w.heap.size w w' := by
  have HLEN : Hid (L.length = len) := hL.length
  have HLEGS : Hid (∀ l ∈ L, LegW l) := hL.legs
  have HL : Hid (LegsAt w a len cap L) := hL
  clear hL
  obtain ⟨i0, hi, hz0, hz1, hz2⟩ := info_parts Tryd.infoLeg
  go_enter Tryd.func49, Tryd.ntmps49
  go_wp2_with (at_make; refine wpList_make_full _ rfl _ _ 27 rfl w.heap.size 69 i0 _ 3 Tryd.underlying27 hi hz0 hz1 .i64 .i64 _ _ len rfl rfl (by simp) (by simp) (by rw [hz2]; omega) (by unfold maxLen; omega) (Nat.le_refl _) ?_; intro w1 hown hgrow)
  have hb1 : Below w.heap.size w w1 := (Below.refl _ _).grown hgrow (Nat.le_refl _) (by simp)
  have hsz1 : w.heap.size < w1.heap.size := (hown.lt _ rfl).2
  go_loopw [4] (fun i wr => ∃ (k : Nat) (xs : List Value), k ≤ len ∧ i = .int .i64 k ∧ wr.ownsRow w.heap.size 69 3 (.slice (some ⟨w.heap.size, 0, none⟩) len len) len xs ∧ Below w.heap.size w wr ∧ (∀ j l, j < k → L[j]? = some l → RowHas xs j l)) (fun i _ => len - (intOf i).toNat)
  case atStart => exact ⟨0, _, Nat.zero_le _, rfl, hown, hb1, fun j l h => absurd h (Nat.not_lt_zero _)⟩
  case round =>
    obtain ⟨k, xs, hk, rfl, ho, hb, hrow⟩ := hrel
    have HROW : Hid (∀ j l, j < k → L[j]? = some l → RowHas xs j l) := hrow
    clear hrow hown hgrow
    by_cases hlt : k < len
    · obtain ⟨b, off, rfl, hbb⟩ := HL.out.form (by omega)
      obtain ⟨s, c, n, hg, hlw, g0, g1, g2⟩ := HL.out.leg hb hbb k hlt
      have HG : Hid (L[k]? = some (s, c, n)) := hg
      clear hg hlw
      have hxl := ho.1
      have HX : Hid (xs.length = len * 3) := hxl
      clear hxl
      have HO : Hid (wr.ownsRow w.heap.size 69 3 (.slice (some ⟨w.heap.size, 0, none⟩) len len) len xs) := ho
      clear ho
      go_wp2_with fail
      refine (toLeg_any _ _ _ _).mono ?_
      rintro e w2 ⟨rfl, hb2⟩
      have ho2 : w2.ownsRow w.heap.size 69 3 (.slice (some ⟨w.heap.size, 0, none⟩) len len) len xs := HO.out.kept (row := none) ⟨hb2.os, hb2.tape, hb2.output, hb2.size, fun k hk _ => hb2.block k hk⟩ (.inr (by simp [Value.ownBlock]))
      have c0 : ∃ v, w2.cell? ⟨w.heap.size, k * 3, none⟩ = some v := ⟨_, (ho2.cellAt _ (by omega)).trans (List.getElem?_eq_getElem (by rw [HX.out]; omega))⟩
      have c1 : ∃ v, w2.cell? ⟨w.heap.size, k * 3 + 1, none⟩ = some v := ⟨_, (ho2.cellAt _ (by omega)).trans (List.getElem?_eq_getElem (by rw [HX.out]; omega))⟩
      have c2 : ∃ v, w2.cell? ⟨w.heap.size, k * 3 + 2, none⟩ = some v := ⟨_, (ho2.cellAt _ (by omega)).trans (List.getElem?_eq_getElem (by rw [HX.out]; omega))⟩
      obtain ⟨v0, c0⟩ := c0
      obtain ⟨v1, c1⟩ := c1
      obtain ⟨v2, c2⟩ := c2
      have f0 : w2.frozen? ⟨w.heap.size, k * 3, none⟩ = false := ho2.frozenAt _
      have f1 : w2.frozen? ⟨w.heap.size, k * 3 + 1, none⟩ = false := ho2.frozenAt _
      have f2 : w2.frozen? ⟨w.heap.size, k * 3 + 2, none⟩ = false := ho2.frozenAt _
      have HO2 : Hid (w2.ownsRow w.heap.size 69 3 (.slice (some ⟨w.heap.size, 0, none⟩) len len) len xs) := ho2
      clear ho2
      go_wp2
      go_roundw
      case rel =>
        have t0 := HO2.out.stored (k * 3) (.string s)
        have t1 := t0.1.stored (k * 3 + 1) (.int .i64 c)
        have t2 := t1.1.stored (k * 3 + 2) (.int .i64 n)
        refine ⟨k + 1, _, by omega, by go_num, t2.1, ?_, ?_⟩
        · exact (((hb.trans (hb2.mono hb.size)).setCell (p := ⟨w.heap.size, _, none⟩) (Nat.le_refl _) _).setCell (p := ⟨w.heap.size, _, none⟩) (Nat.le_refl _) _).setCell (p := ⟨w.heap.size, _, none⟩) (Nat.le_refl _) _
        · intro j l hj hl
          by_cases hjk : j = k
          · subst hjk
            rw [HG.out] at hl
            cases hl
            exact rowHas_same s c n (by rw [HX.out]; omega)
          · exact rowHas_other (HROW.out j l (by omega) hl) hjk _ _ _
      case measure => simp [intOf]; omega
    · go_wp2
      go_ret
      exact ⟨rfl, legsAt_of_row ho HLEN.out HLEGS.out (fun j l hl => HROW.out j l (by have := (List.getElem?_eq_some_iff.1 hl).1; rw [HLEN.out] at this; omega) hl), (ho.lt _ rfl).2, blockOf_row ho, hb⟩

set_option maxHeartbeats 1000000 in
theorem toPost_own (id : Int) (a : Option Addr) (len cap : Nat) (L : List LegD) (w : World) (hL : LegsAt w a len cap L) (hbig : len ≤ 1048576) :
    Calls Tryd.prog 13 #[.agg #[.int .i64 id, .slice a len cap]] w fun e w' => ∃ b, e = .returned (.agg #[.int .i64 id, .slice (some ⟨b, 0, none⟩) len len]) ∧ w.heap.size ≤ b ∧ b < w'.heap.size ∧ LegsAt w' (some ⟨b, 0, none⟩) len len L ∧ BlockOf w' b 69 (len * 3) ∧ Below w.heap.size w w' := by
  go_enter Tryd.func13, Tryd.ntmps13
  go_wp2_with fail
  refine (toLegS_own _ _ _ L _ (hL.keep ?_) hbig).mono ?_
  · exact (((Below.refl _ _).alloc (Nat.le_refl _) _).alloc (by simp) _).alloc (by simp; omega) _
  rintro e w1 ⟨rfl, hL1, hlt1, hbk1, hb1⟩
  have HBK : Hid (BlockOf w1 (w.heap.size + 1 + 1 + 1) 69 (len * 3)) := by simpa [Hid] using hbk1
  clear hbk1
  simp only [World.size_alloc] at hlt1
  obtain ⟨hc1, hf1⟩ := bcell hb1
  have hz := hb1.size
  simp at hz
  have HL1 : Hid (LegsAt w1 (some ⟨w.heap.size + 1 + 1 + 1, 0, none⟩) len len L) := by simpa [Hid] using hL1
  have HZ : Hid (w.heap.size + 1 + 1 + 1 < w1.heap.size) := hlt1
  clear hL1 hlt1
  go_wp2
  refine bodyPost_ret (v := .agg #[.int .i64 id, .slice (some ⟨w.heap.size + 1 + 1 + 1, 0, none⟩) len len]) (by simp [results, Tryd.results13, go_sem, hc1]) rfl ⟨w.heap.size + 1 + 1 + 1, rfl, by omega, by simpa [World.setCell] using HZ.out, ?_, ((HBK.out.setCell _).setCell _).setCell _, ?_⟩
  · refine ((HL1.out.setCell _ _ ?_).setCell _ _ ?_).setCell _ _ ?_ <;> (rintro x e _; cases e; simp; try omega)
  · have hB : Below w.heap.size w w1 := ((((Below.refl _ _).alloc (Nat.le_refl _) _).alloc (by simp) _).alloc (by simp; omega) _).trans (hb1.mono (by simp; omega))
    exact ((hB.setCell (p := ⟨w.heap.size + 1 + 1, 1, none⟩) (by simp; omega) _).setCell (p := ⟨w.heap.size + 1, 0, none⟩) (by simp) _).setCell (p := ⟨w.heap.size + 1, 1, none⟩) (by simp) _

set_option maxHeartbeats 2000000 in
theorem toPostS_own (a : Option Addr) (len cap : Nat) (B : List PostD) (w : World) (hP : PostsAt w a len cap B) (hbig : len ≤ 1048576) (hlegs : ∀ p ∈ B, p.2.length ≤ 1048576) :
    Calls Tryd.prog 40 #[.slice a len cap] w fun e w' => e = .returned (.slice (some ⟨w.heap.size, 0, none⟩) len len) ∧ PostsAt w' (some ⟨w.heap.size, 0, none⟩) len len B ∧ w.heap.size < w'.heap.size ∧ BlockOf w' w.heap.size 29 (len * 2) ∧ (∀ j, j < len → LegOwn w.heap.size w'.heap.size w.heap.size w' j) ∧ Below w.heap.size w w' := by
  have HLEN : Hid (B.length = len) := hP.length
  have HWF : Hid (∀ p ∈ B, (Lit.int .i64 p.1).wf = true) := hP.wfs
  have HLEGS : Hid (∀ p ∈ B, p.2.length ≤ 1048576) := hlegs
  have HL : Hid (PostsAt w a len cap B) := hP
  clear hP hlegs
  obtain ⟨i0, hi, hz0, hz1, hz2⟩ := info_parts Tryd.infoPost
  go_enter Tryd.func40, Tryd.ntmps40
  go_wp2_with (at_make; refine wpList_make_full _ rfl _ _ 57 rfl w.heap.size 29 i0 _ 2 Tryd.underlying57 hi hz0 hz1 .i64 .i64 _ _ len rfl rfl (by simp) (by simp) (by rw [hz2]; omega) (by unfold maxLen; omega) (Nat.le_refl _) ?_; intro w1 hown hgrow)
  have hb1 : Below w.heap.size w w1 := (Below.refl _ _).grown hgrow (Nat.le_refl _) (by simp)
  have hsz1 : w.heap.size < w1.heap.size := (hown.lt _ rfl).2
  go_loopw [4] (fun i wr => ∃ (k : Nat) (xs : List Value), k ≤ len ∧ i = .int .i64 k ∧ wr.ownsRow w.heap.size 29 2 (.slice (some ⟨w.heap.size, 0, none⟩) len len) len xs ∧ Below w.heap.size w wr ∧ (∀ j p, j < k → B[j]? = some p → PostHas w.heap.size wr xs j p) ∧ (∀ j, j < k → LegRow w.heap.size wr xs j)) (fun i _ => len - (intOf i).toNat)
  case atStart => exact ⟨0, _, Nat.zero_le _, rfl, hown, hb1, (fun j l h => absurd h (Nat.not_lt_zero _)), fun j h => absurd h (Nat.not_lt_zero _)⟩
  case round =>
    obtain ⟨k, xs, hk, rfl, ho, hb, hrow, hown2⟩ := hrel
    have HOW : Hid (∀ j, j < k → LegRow w.heap.size wr xs j) := hown2
    clear hown2
    have HROW : Hid (∀ j p, j < k → B[j]? = some p → PostHas w.heap.size wr xs j p) := hrow
    clear hrow hown hgrow
    have hzr : w.heap.size < wr.heap.size := (ho.lt _ rfl).2
    by_cases hlt : k < len
    · obtain ⟨b, off, rfl, hbb⟩ := HL.out.form (by omega)
      obtain ⟨id, L, s, n, c, hg, hwf, g0, g1, hLk⟩ := HL.out.post hb k hlt
      have hn : n ≤ 1048576 := by
        have := HLEGS.out _ (List.mem_of_getElem? hg)
        have := hLk.length
        simp only at *
        omega
      have HG : Hid (B[k]? = some (id, L)) := hg
      have hbk : b < wr.heap.size := Nat.lt_of_lt_of_le hbb hb.size
      clear hg hwf
      have hxl := ho.1
      have HX : Hid (xs.length = len * 2) := hxl
      clear hxl
      have HO : Hid (wr.ownsRow w.heap.size 29 2 (.slice (some ⟨w.heap.size, 0, none⟩) len len) len xs) := ho
      clear ho
      go_wp2_with fail
      refine (toPost_own _ _ _ _ L _ hLk hn).mono ?_
      rintro e w2 ⟨nb, rfl, hnb1, hnb2, hL2, hbk2, hb2⟩
      have HBK : Hid (BlockOf w2 nb 69 (n * 3)) := hbk2
      have HNL : Hid (n ≤ maxLen) := by unfold Hid maxLen; omega
      clear hbk2
      have ho2 : w2.ownsRow w.heap.size 29 2 (.slice (some ⟨w.heap.size, 0, none⟩) len len) len xs := HO.out.kept (row := none) ⟨hb2.os, hb2.tape, hb2.output, hb2.size, fun k hk _ => hb2.block k hk⟩ (.inr (by simp [Value.ownBlock]))
      have c0 : ∃ v, w2.cell? ⟨w.heap.size, k * 2, none⟩ = some v := ⟨_, (ho2.cellAt _ (by omega)).trans (List.getElem?_eq_getElem (by rw [HX.out]; omega))⟩
      have c1 : ∃ v, w2.cell? ⟨w.heap.size, k * 2 + 1, none⟩ = some v := ⟨_, (ho2.cellAt _ (by omega)).trans (List.getElem?_eq_getElem (by rw [HX.out]; omega))⟩
      obtain ⟨v0, c0⟩ := c0
      obtain ⟨v1, c1⟩ := c1
      have f0 : w2.frozen? ⟨w.heap.size, k * 2, none⟩ = false := ho2.frozenAt _
      have f1 : w2.frozen? ⟨w.heap.size, k * 2 + 1, none⟩ = false := ho2.frozenAt _
      have HO2 : Hid (w2.ownsRow w.heap.size 29 2 (.slice (some ⟨w.heap.size, 0, none⟩) len len) len xs) := ho2
      have HL2 : Hid (LegsAt w2 (some ⟨nb, 0, none⟩) n n L) := hL2
      clear ho2 hL2 hLk
      go_wp2
      go_roundw
      case rel =>
        have t0 := HO2.out.stored (k * 2) (.int .i64 id)
        have t1 := t0.1.stored (k * 2 + 1) (.slice (some ⟨nb, 0, none⟩) n n)
        have hset : ∀ s n c L, LegsAt w2 s n c L → (∀ x, s = some x → 0 < n → x.block ≠ w.heap.size) → LegsAt ((w2.setCell ⟨w.heap.size, k * 2, none⟩ (.int .i64 id)).setCell ⟨w.heap.size, k * 2 + 1, none⟩ (.slice (some ⟨nb, 0, none⟩) n n)) s n c L := fun s n c L hl hne => (hl.setCell _ _ hne).setCell _ _ hne
        refine ⟨k + 1, _, by omega, by go_num, t1.1, ?_, ?_, ?_⟩
        · exact ((hb.trans (hb2.mono hb.size)).setCell (p := ⟨w.heap.size, _, none⟩) (Nat.le_refl _) _).setCell (p := ⟨w.heap.size, _, none⟩) (Nat.le_refl _) _
        · intro j p hj hp
          by_cases hjk : j = k
          · subst hjk
            rw [HG.out] at hp
            cases hp
            have hne : ∀ x, some (⟨nb, 0, none⟩ : Addr) = some x → 0 < n → x.block ≠ w.heap.size := by rintro x e _; cases e; simp only; omega
            exact postHas_same (by rw [HX.out]; omega) ((HL2.out.setCell _ _ hne).setCell _ _ hne) hne
          · refine (HROW.out j p (by omega) hp).other hjk _ _ ?_
            intro s n c L hl hne
            exact ((hl.keep hb2).setCell _ _ hne).setCell _ _ hne
        · intro j hj
          by_cases hjk : j = k
          · subst hjk
            refine ⟨nb, n, n, ?_, by omega, by simpa [World.setCell] using hnb2, (HBK.out.setCell _).setCell _, Nat.le_refl _, HNL.out⟩
            rw [List.getElem?_set_self (by simp [HX.out]; omega)]
          · exact ((HOW.out j (by omega)).below hb2).other hjk _ _
      case measure => simp [intOf]; omega
    · go_wp2
      go_ret
      exact ⟨rfl, postsAt_of_row ho HLEN.out HWF.out (fun j p hp => HROW.out j p (by have := (List.getElem?_eq_some_iff.1 hp).1; rw [HLEN.out] at this; omega) hp), (ho.lt _ rfl).2, blockOf_row ho, (fun j hj => (HOW.out j (by omega)).own ho hj), hb⟩
end Go.Proofs.YtfblpbihpmhgjaaDoor
