/-
  The laws' copies of runs, levels, numbers and trees, with the blocks that they lie in, by walks of their Go text.
-/
import Derived.Test.YtlmgojlffgkciaaGreatCe24
import Derived.Test.YtlmgojlffgkciaaGreatCe39
namespace Go.Proofs.YtlmgojlffgkciaaGreat
open Go.RowKit
theorem BlockOf.same {w w' : World} {g t sz : Nat} (h : BlockOf w g t sz) (hf : w'.heap[g]? = w.heap[g]?) : BlockOf w' g t sz := by
  obtain ⟨cur, h1, h2⟩ := h
  exact ⟨cur, hf.trans h1, h2⟩
def FarS (lo hi : Nat) (w w' : World) : Prop := ∀ q, lo ≤ q → q < hi → w'.heap[q]? = w.heap[q]?
theorem FarS.trans {lo hi : Nat} {w w' w'' : World} (h : FarS lo hi w w') (k : FarS lo hi w' w'') : FarS lo hi w w'' := fun q h1 h2 => (k q h1 h2).trans (h q h1 h2)
theorem FarS.of_below {lo : Nat} {w w' : World} (h : Below w.heap.size w w') : FarS lo w.heap.size w w' := fun q _ h2 => h.block q h2
theorem FarS.of_set {lo hi : Nat} (w : World) {g o : Nat} (v : Value) (hg : g < lo) : FarS lo hi w (w.setCell ⟨g, o, none⟩ v) := fun q h1 _ => Below.heap_setCell _ _ _ _ (fun e => by have e' : q = g := e; omega)
theorem EntBl.far {lo hi g m : Nat} {w w' : World} (h : EntBl lo hi w g m) (k : FarS lo hi w w') : EntBl lo hi w' g m := ⟨h.1, h.2.1, h.2.2.same (k _ h.1 h.2.1)⟩
theorem RunsBl.far {lo hi g : Nat} {w w' : World} {B : List RunD} (h : RunsBl lo hi w g B) (k : FarS lo hi w w') : RunsBl lo hi w' g B :=
  ⟨h.at1, h.at2, h.blk.same (k _ h.at1 h.at2), fun i p hp => by obtain ⟨e, c, b⟩ := h.runs i p hp; exact ⟨e, (World.cell?_of_block (k _ h.at1 h.at2)).trans c, b.far k⟩⟩
theorem LevsBl.far {lo hi g : Nat} {w w' : World} {V : List (List RunD)} (h : LevsBl lo hi w g V) (k : FarS lo hi w w') : LevsBl lo hi w' g V :=
  ⟨h.at1, h.at2, h.blk.same (k _ h.at1 h.at2), fun i p hp => by obtain ⟨e, c, b⟩ := h.levs i p hp; exact ⟨e, (World.cell?_of_block (k _ h.at1 h.at2)).trans c, b.far k⟩⟩
def RunHasB (G : Nat) (w : World) (xs : List Value) (j : Nat) (p : RunD) : Prop :=
  ∃ e, xs[j * 2]? = some (.slice (some ⟨e, 0, none⟩) p.1.length p.1.length) ∧ xs[j * 2 + 1]? = some (.int .i64 p.2) ∧ EntsIn (G + 1) w (some ⟨e, 0, none⟩) p.1.length p.1.length p.1 ∧ EntBl (G + 1) w.heap.size w e p.1.length
theorem RunHasB.has {G : Nat} {w : World} {xs : List Value} {j : Nat} {p : RunD} (h : RunHasB G w xs j p) : RunHas G w xs j p := by
  obtain ⟨e, h0, h1, h2, _⟩ := h
  exact ⟨_, _, _, h0, h1, h2⟩
theorem RunHasB.other {G : Nat} {w w' : World} {xs : List Value} {j k : Nat} {p : RunD} (h : RunHasB G w xs j p) (hne : j ≠ k) (u0 u1 : Value) (hs : Same (G + 1) w w') (hf : FarS (G + 1) w.heap.size w w') : RunHasB G w' ((xs.set (k * 2) u0).set (k * 2 + 1) u1) j p := by
  obtain ⟨e, h0, h1, h2, h3⟩ := h
  refine ⟨e, ?_, ?_, h2.same hs, (h3.far hf).mono (Nat.le_refl _) hs.1⟩ <;> (repeat rw [List.getElem?_set_ne (by omega)]) <;> assumption
theorem runHasB_same {G : Nat} {w : World} {xs : List Value} {k : Nat} {m : Int} {e n : Nat} {L : List EntD} (h : k * 2 + 1 < xs.length) (hn : L.length = n) (hL : EntsIn (G + 1) w (some ⟨e, 0, none⟩) n n L) (hE : EntBl (G + 1) w.heap.size w e n) : RunHasB G w ((xs.set (k * 2) (.slice (some ⟨e, 0, none⟩) n n)).set (k * 2 + 1) (.int .i64 m)) k (L, m) := by
  subst hn
  refine ⟨e, ?_, ?_, hL, hE⟩
  · rw [List.getElem?_set_ne (by omega), List.getElem?_set_self (by omega)]
  · rw [List.getElem?_set_self (by simp; omega)]
theorem runsBl_of_row {w : World} {base g n : Nat} {xs : List Value} {B : List RunD} (h : w.ownsRow base 102 2 (.slice (some ⟨g, 0, none⟩) n n) n xs) (hn : B.length = n)
    (hh : ∀ j p, B[j]? = some p → RunHasB g w xs j p) : RunsBl g w.heap.size w g B := by
  have hlt := (h.lt g rfl).2
  refine ⟨Nat.le_refl _, hlt, by rw [hn]; exact blockOf_row h, fun i p hp => ?_⟩
  obtain ⟨e, h0, _, _, h3⟩ := hh i p hp
  have hi := (List.getElem?_eq_some_iff.1 hp).1
  exact ⟨e, (h.cellAt _ (by omega)).trans h0, h3.mono (by omega) (Nat.le_refl _)⟩
set_option maxHeartbeats 1600000 in
theorem toRunS_bl (lo : Nat) (a : Option Addr) (len cap : Nat) (B : List RunD) (w : World) (hP : RunsIn lo w a len cap B) (hS : SmallR B) :
    Calls Tryz.prog 78 #[.slice a len cap] w fun e w' => e = .returned (.slice (some ⟨w.heap.size, 0, none⟩) len len) ∧ RunsIn w.heap.size w' (some ⟨w.heap.size, 0, none⟩) len len B ∧ RunsBl w.heap.size w'.heap.size w' w.heap.size B ∧ w.heap.size < w'.heap.size ∧ Below w.heap.size w w' := by
  have HLEN : Hid (B.length = len) := hP.length
  have HWF : Hid (∀ p ∈ B, (Lit.int .i64 p.2).wf = true) := hP.wfs
  have hbig : len ≤ 1048576 := by have := hP.length; have := hS.1; omega
  have HSM : Hid (SmallR B) := hS
  have HL : Hid (RunsIn lo w a len cap B) := hP
  clear hP hS
  obtain ⟨i0, hi, hz0, hz1, hz2⟩ := info_parts Tryz.infoRun
  go_enter Tryz.func78, Tryz.ntmps78
  go_wp2_with (at_make; refine wpList_make_full _ rfl _ _ 64 rfl w.heap.size 102 i0 _ 2 Tryz.underlying64 hi hz0 hz1 .i64 .i64 _ _ len rfl rfl (by simp) (by simp) (by rw [hz2]; omega) (by unfold maxLen; omega) (Nat.le_refl _) ?_; intro w1 hown hgrow)
  have hb1 : Below w.heap.size w w1 := (Below.refl _ _).grown hgrow (Nat.le_refl _) (by simp)
  have hsz1 : w.heap.size < w1.heap.size := (hown.lt _ rfl).2
  go_loopw [4] (fun i wr => ∃ (k : Nat) (xs : List Value), k ≤ len ∧ i = .int .i64 k ∧ wr.ownsRow w.heap.size 102 2 (.slice (some ⟨w.heap.size, 0, none⟩) len len) len xs ∧ Below w.heap.size w wr ∧ (∀ j p, j < k → B[j]? = some p → RunHasB w.heap.size wr xs j p)) (fun i _ => len - (intOf i).toNat)
  case atStart => exact ⟨0, _, Nat.zero_le _, rfl, hown, hb1, fun j l h => absurd h (Nat.not_lt_zero _)⟩
  case round =>
    obtain ⟨k, xs, hk, rfl, ho, hb, hrow⟩ := hrel
    have HROW : Hid (∀ j p, j < k → B[j]? = some p → RunHasB w.heap.size wr xs j p) := hrow
    clear hrow hown hgrow
    have hzr : w.heap.size < wr.heap.size := (ho.lt _ rfl).2
    by_cases hlt : k < len
    · obtain ⟨b, off, rfl, hbb⟩ := HL.out.form (by omega)
      obtain ⟨L, m, s, n, c, hg, _, g0, g1, hLk⟩ := HL.out.run hb k hlt
      have hn : n ≤ 1048576 := by
        have := HSM.out.2 _ (List.mem_of_getElem? hg)
        have := hLk.1.length
        simp only at *
        omega
      have HG : Hid (B[k]? = some (L, m)) := hg
      have HBN : Hid (L.length = n) := hLk.1.length
      have hbk : b < wr.heap.size := Nat.lt_of_lt_of_le hbb hb.size
      clear hg
      have hxl := ho.1
      have HX : Hid (xs.length = len * 2) := hxl
      clear hxl
      have HO : Hid (wr.ownsRow w.heap.size 102 2 (.slice (some ⟨w.heap.size, 0, none⟩) len len) len xs) := ho
      clear ho
      go_wp2_with fail
      refine (toRun_own _ _ _ _ L _ hLk.1 hn).mono ?_
      rintro e w2 ⟨nb, rfl, hnb1, hnb2, hL2, hb2⟩
      have HL2 : Hid (EntsIn (w.heap.size + 1) w2 (some ⟨nb, 0, none⟩) n n L) := ⟨hL2.entsAt, fun x e _ => by cases e; simp only; omega⟩
      have HE2 : Hid (EntBl (w.heap.size + 1) w2.heap.size w2 nb n) := ⟨by omega, hnb2, blockOf_row hL2.owns⟩
      clear hL2 hLk
      have ho2 : w2.ownsRow w.heap.size 102 2 (.slice (some ⟨w.heap.size, 0, none⟩) len len) len xs := HO.out.kept (row := none) ⟨hb2.os, hb2.tape, hb2.output, hb2.size, fun k hk _ => hb2.block k hk⟩ (.inr (by simp [Value.ownBlock]))
      have c0 : ∃ v, w2.cell? ⟨w.heap.size, k * 2, none⟩ = some v := ⟨_, (ho2.cellAt _ (by omega)).trans (List.getElem?_eq_getElem (by rw [HX.out]; omega))⟩
      have c1 : ∃ v, w2.cell? ⟨w.heap.size, k * 2 + 1, none⟩ = some v := ⟨_, (ho2.cellAt _ (by omega)).trans (List.getElem?_eq_getElem (by rw [HX.out]; omega))⟩
      obtain ⟨v0, c0⟩ := c0
      obtain ⟨v1, c1⟩ := c1
      have f0 : w2.frozen? ⟨w.heap.size, k * 2, none⟩ = false := ho2.frozenAt _
      have f1 : w2.frozen? ⟨w.heap.size, k * 2 + 1, none⟩ = false := ho2.frozenAt _
      have HO2 : Hid (w2.ownsRow w.heap.size 102 2 (.slice (some ⟨w.heap.size, 0, none⟩) len len) len xs) := ho2
      clear ho2
      go_wp2
      go_roundw
      case rel =>
        have t0 := HO2.out.stored (k * 2) (.slice (some ⟨nb, 0, none⟩) n n)
        have t1 := t0.1.stored (k * 2 + 1) (.int .i64 m)
        have hsm : Same (w.heap.size + 1) w2 ((w2.setCell ⟨w.heap.size, k * 2, none⟩ (.slice (some ⟨nb, 0, none⟩) n n)).setCell ⟨w.heap.size, k * 2 + 1, none⟩ (.int .i64 m)) := (Same.of_set _ _ (by simp)).trans (Same.of_set _ _ (by simp))
        have hsf : ∀ hi, FarS (w.heap.size + 1) hi w2 ((w2.setCell ⟨w.heap.size, k * 2, none⟩ (.slice (some ⟨nb, 0, none⟩) n n)).setCell ⟨w.heap.size, k * 2 + 1, none⟩ (.int .i64 m)) := fun hi => (FarS.of_set _ _ (by simp)).trans (FarS.of_set _ _ (by simp))
        refine ⟨k + 1, _, by omega, by go_num, t1.1, ?_, ?_⟩
        · exact ((hb.trans (hb2.mono hb.size)).setCell (p := ⟨w.heap.size, _, none⟩) (Nat.le_refl _) _).setCell (p := ⟨w.heap.size, _, none⟩) (Nat.le_refl _) _
        · intro j p hj hp
          by_cases hjk : j = k
          · subst hjk
            rw [HG.out] at hp
            cases hp
            exact runHasB_same (by rw [HX.out]; omega) HBN.out (HL2.out.same hsm) ((HE2.out.far (hsf _)).mono (Nat.le_refl _) hsm.1)
          · exact (HROW.out j p (by omega) hp).other hjk _ _ ((Same.of_below hb2).trans hsm) ((FarS.of_below hb2).trans (hsf _))
      case measure => simp [intOf]; omega
    · go_wp2
      go_ret
      have hall : ∀ j p, B[j]? = some p → RunHasB w.heap.size wr xs j p := fun j p hp => HROW.out j p (by have := (List.getElem?_eq_some_iff.1 hp).1; rw [HLEN.out] at this; omega) hp
      exact ⟨rfl, runsIn_of_row ho HLEN.out HWF.out (fun j p hp => (hall j p hp).has), runsBl_of_row ho HLEN.out hall, (ho.lt _ rfl).2, hb⟩
def LevHasB (G : Nat) (w : World) (xs : List Value) (j : Nat) (p : List RunD) : Prop :=
  ∃ e, xs[j]? = some (.slice (some ⟨e, 0, none⟩) p.length p.length) ∧ RunsIn (G + 1) w (some ⟨e, 0, none⟩) p.length p.length p ∧ RunsBl (G + 1) w.heap.size w e p
theorem LevHasB.has {G : Nat} {w : World} {xs : List Value} {j : Nat} {p : List RunD} (h : LevHasB G w xs j p) : LevHas G w xs j p := by
  obtain ⟨e, h0, h2, _⟩ := h
  exact ⟨_, _, _, h0, h2⟩
theorem LevHasB.other {G : Nat} {w w' : World} {xs : List Value} {j k : Nat} {p : List RunD} (h : LevHasB G w xs j p) (hne : j ≠ k) (u0 : Value) (hs : Same (G + 1) w w') (hf : FarS (G + 1) w.heap.size w w') : LevHasB G w' (xs.set k u0) j p := by
  obtain ⟨e, h0, h2, h3⟩ := h
  exact ⟨e, by rw [List.getElem?_set_ne (by omega)]; exact h0, h2.same hs, (h3.far hf).mono (Nat.le_refl _) hs.1⟩
theorem levHasB_same {G : Nat} {w : World} {xs : List Value} {k e n : Nat} {B : List RunD} (h : k < xs.length) (hn : B.length = n) (hL : RunsIn (G + 1) w (some ⟨e, 0, none⟩) n n B) (hE : RunsBl (G + 1) w.heap.size w e B) : LevHasB G w (xs.set k (.slice (some ⟨e, 0, none⟩) n n)) k B := by
  subst hn
  exact ⟨e, by rw [List.getElem?_set_self (by omega)], hL, hE⟩
theorem levsBl_of_row {w : World} {base g n : Nat} {xs : List Value} {V : List (List RunD)} (h : w.ownsRow base 64 1 (.slice (some ⟨g, 0, none⟩) n n) n xs) (hn : V.length = n)
    (hh : ∀ j p, V[j]? = some p → LevHasB g w xs j p) : LevsBl g w.heap.size w g V := by
  have hlt := (h.lt g rfl).2
  refine ⟨Nat.le_refl _, hlt, by rw [hn]; exact blockOf_row h, fun i p hp => ?_⟩
  obtain ⟨e, h0, _, h3⟩ := hh i p hp
  have hi := (List.getElem?_eq_some_iff.1 hp).1
  exact ⟨e, (h.cellAt _ (by omega)).trans h0, h3.mono (by omega) (Nat.le_refl _)⟩
set_option maxHeartbeats 1600000 in
theorem toRunSS_bl (lo : Nat) (a : Option Addr) (len cap : Nat) (V : List (List RunD)) (w : World) (hP : LevelsIn lo w a len cap V) (hS : SmallV V) :
    Calls Tryz.prog 40 #[.slice a len cap] w fun e w' => e = .returned (.slice (some ⟨w.heap.size, 0, none⟩) len len) ∧ LevelsIn w.heap.size w' (some ⟨w.heap.size, 0, none⟩) len len V ∧ LevsBl w.heap.size w'.heap.size w' w.heap.size V ∧ w.heap.size < w'.heap.size ∧ Below w.heap.size w w' := by
  have HLEN : Hid (V.length = len) := hP.length
  have HWF : Hid (True) := trivial
  have hbig : len ≤ 1048576 := by have := hP.length; have := hS.1; omega
  have HSM : Hid (SmallV V) := hS
  have HL : Hid (LevelsIn lo w a len cap V) := hP
  clear hP hS
  obtain ⟨i0, hi, hz0, hz1, hz2⟩ := info_parts Tryz.infoRunL
  go_enter Tryz.func40, Tryz.ntmps40
  go_wp2_with (at_make; refine wpList_make_full _ rfl _ _ 29 rfl w.heap.size 64 i0 _ 1 Tryz.underlying29 hi hz0 hz1 .i64 .i64 _ _ len rfl rfl (by simp) (by simp) (by rw [hz2]; omega) (by unfold maxLen; omega) (Nat.le_refl _) ?_; intro w1 hown hgrow)
  have hb1 : Below w.heap.size w w1 := (Below.refl _ _).grown hgrow (Nat.le_refl _) (by simp)
  have hsz1 : w.heap.size < w1.heap.size := (hown.lt _ rfl).2
  go_loopw [4] (fun i wr => ∃ (k : Nat) (xs : List Value), k ≤ len ∧ i = .int .i64 k ∧ wr.ownsRow w.heap.size 64 1 (.slice (some ⟨w.heap.size, 0, none⟩) len len) len xs ∧ Below w.heap.size w wr ∧ (∀ j p, j < k → V[j]? = some p → LevHasB w.heap.size wr xs j p)) (fun i _ => len - (intOf i).toNat)
  case atStart => exact ⟨0, _, Nat.zero_le _, rfl, hown, hb1, fun j l h => absurd h (Nat.not_lt_zero _)⟩
  case round =>
    obtain ⟨k, xs, hk, rfl, ho, hb, hrow⟩ := hrel
    have HROW : Hid (∀ j p, j < k → V[j]? = some p → LevHasB w.heap.size wr xs j p) := hrow
    clear hrow hown hgrow
    have hzr : w.heap.size < wr.heap.size := (ho.lt _ rfl).2
    by_cases hlt : k < len
    · obtain ⟨b, off, rfl, hbb⟩ := HL.out.form (by omega)
      obtain ⟨B, s, n, c, hg, g0, hLk⟩ := HL.out.level hb k hlt
      have hn : SmallR B := HSM.out.2 _ (List.mem_of_getElem? hg)
      have HG : Hid (V[k]? = some B) := hg
      have HBN : Hid (B.length = n) := hLk.length
      have hbk : b < wr.heap.size := Nat.lt_of_lt_of_le hbb hb.size
      clear hg
      have hxl := ho.1
      have HX : Hid (xs.length = len * 1) := hxl
      clear hxl
      have HO : Hid (wr.ownsRow w.heap.size 64 1 (.slice (some ⟨w.heap.size, 0, none⟩) len len) len xs) := ho
      clear ho
      go_wp2_with fail
      refine (toRunS_bl lo _ _ _ B _ hLk hn).mono ?_
      rintro e w2 ⟨rfl, hL2, hB2, _, hb2⟩
      have HL2 : Hid (RunsIn (w.heap.size + 1) w2 (some ⟨wr.heap.size, 0, none⟩) n n B) := hL2.mono hzr
      have HE2 : Hid (RunsBl (w.heap.size + 1) w2.heap.size w2 wr.heap.size B) := hB2.mono hzr (Nat.le_refl _)
      clear hB2 hL2 hLk hn
      have ho2 : w2.ownsRow w.heap.size 64 1 (.slice (some ⟨w.heap.size, 0, none⟩) len len) len xs := HO.out.kept (row := none) ⟨hb2.os, hb2.tape, hb2.output, hb2.size, fun k hk _ => hb2.block k hk⟩ (.inr (by simp [Value.ownBlock]))
      have c0 : ∃ v, w2.cell? ⟨w.heap.size, k, none⟩ = some v := ⟨_, (ho2.cellAt _ (by omega)).trans (List.getElem?_eq_getElem (by rw [HX.out]; omega))⟩
      obtain ⟨v0, c0⟩ := c0
      have f0 : w2.frozen? ⟨w.heap.size, k, none⟩ = false := ho2.frozenAt _
      have HO2 : Hid (w2.ownsRow w.heap.size 64 1 (.slice (some ⟨w.heap.size, 0, none⟩) len len) len xs) := ho2
      clear ho2
      go_wp2
      go_roundw
      case rel =>
        have t0 := HO2.out.stored k (.slice (some ⟨wr.heap.size, 0, none⟩) n n)
        have hsm : Same (w.heap.size + 1) w2 (w2.setCell ⟨w.heap.size, k, none⟩ (.slice (some ⟨wr.heap.size, 0, none⟩) n n)) := Same.of_set _ _ (by simp)
        have hsf : ∀ hi, FarS (w.heap.size + 1) hi w2 (w2.setCell ⟨w.heap.size, k, none⟩ (.slice (some ⟨wr.heap.size, 0, none⟩) n n)) := fun hi => FarS.of_set _ _ (by simp)
        refine ⟨k + 1, _, by omega, by go_num, t0.1, ?_, ?_⟩
        · exact (hb.trans (hb2.mono hb.size)).setCell (p := ⟨w.heap.size, _, none⟩) (Nat.le_refl _) _
        · intro j p hj hp
          by_cases hjk : j = k
          · subst hjk
            rw [HG.out] at hp
            cases hp
            exact levHasB_same (by rw [HX.out]; omega) HBN.out (HL2.out.same hsm) ((HE2.out.far (hsf _)).mono (Nat.le_refl _) hsm.1)
          · exact (HROW.out j p (by omega) hp).other hjk _ ((Same.of_below hb2).trans hsm) ((FarS.of_below hb2).trans (hsf _))
      case measure => simp [intOf]; omega
    · go_wp2
      go_ret
      have hall : ∀ j p, V[j]? = some p → LevHasB w.heap.size wr xs j p := fun j p hp => HROW.out j p (by have := (List.getElem?_eq_some_iff.1 hp).1; rw [HLEN.out] at this; omega) hp
      exact ⟨rfl, levelsIn_of_row ho HLEN.out HWF.out (fun j p hp => (hall j p hp).has), levsBl_of_row ho HLEN.out hall, (ho.lt _ rfl).2, hb⟩
set_option maxHeartbeats 1600000 in
theorem toIntS_bl (lo : Nat) (a : Option Addr) (len cap : Nat) (S : List Int) (w : World) (hP : IntsIn lo w a len cap S) (hbig : len ≤ 1048576) :
    Calls Tryz.prog 41 #[.slice a len cap] w fun e w' => e = .returned (.slice (some ⟨w.heap.size, 0, none⟩) len len) ∧ IntsIn w.heap.size w' (some ⟨w.heap.size, 0, none⟩) len len S ∧ BlockOf w' w.heap.size 3 (len * 1) ∧ w.heap.size < w'.heap.size ∧ Below w.heap.size w w' := by
  have HLEN : Hid (S.length = len) := hP.length
  have HWF : Hid (∀ q ∈ S, (Lit.int .i64 q).wf = true) := hP.wfs
  have HL : Hid (IntsIn lo w a len cap S) := hP
  clear hP
  obtain ⟨i0, hi, hz0, hz1, hz2⟩ := info_parts Tryz.infoInt
  go_enter Tryz.func41, Tryz.ntmps41
  go_wp2_with (at_make; refine wpList_make_full _ rfl _ _ 24 rfl w.heap.size 3 i0 _ 1 Tryz.underlying24 hi hz0 hz1 .i64 .i64 _ _ len rfl rfl (by simp) (by simp) (by rw [hz2]; omega) (by unfold maxLen; omega) (Nat.le_refl _) ?_; intro w1 hown hgrow)
  have hb1 : Below w.heap.size w w1 := (Below.refl _ _).grown hgrow (Nat.le_refl _) (by simp)
  go_loopw [4] (fun i wr => ∃ (k : Nat) (xs : List Value), k ≤ len ∧ i = .int .i64 k ∧ wr.ownsRow w.heap.size 3 1 (.slice (some ⟨w.heap.size, 0, none⟩) len len) len xs ∧ Below w.heap.size w wr ∧ (∀ j q, j < k → S[j]? = some q → xs[j]? = some (Value.int .i64 q))) (fun i _ => len - (intOf i).toNat)
  case atStart => exact ⟨0, _, Nat.zero_le _, rfl, hown, hb1, fun j l h => absurd h (Nat.not_lt_zero _)⟩
  case round =>
    obtain ⟨k, xs, hk, rfl, ho, hb, hrow⟩ := hrel
    have HROW : Hid (∀ j q, j < k → S[j]? = some q → xs[j]? = some (Value.int .i64 q)) := hrow
    clear hrow hown hgrow
    by_cases hlt : k < len
    · obtain ⟨b, off, rfl, hbb⟩ := HL.out.form (by omega)
      obtain ⟨q, hg, _, g0⟩ := HL.out.num hb k hlt
      have HG : Hid (S[k]? = some q) := hg
      have hbk : b < wr.heap.size := Nat.lt_of_lt_of_le hbb hb.size
      have hzr : w.heap.size < wr.heap.size := (ho.lt _ rfl).2
      clear hg
      have hxl := ho.1
      have HX : Hid (xs.length = len * 1) := hxl
      clear hxl
      have c0 : ∃ v, wr.cell? ⟨w.heap.size, k, none⟩ = some v := ⟨_, (ho.cellAt _ (by omega)).trans (List.getElem?_eq_getElem (by rw [HX.out]; omega))⟩
      obtain ⟨v0, c0⟩ := c0
      have f0 : wr.frozen? ⟨w.heap.size, k, none⟩ = false := ho.frozenAt _
      have HO : Hid (wr.ownsRow w.heap.size 3 1 (.slice (some ⟨w.heap.size, 0, none⟩) len len) len xs) := ho
      clear ho
      go_wp2
      go_roundw
      case rel =>
        have t0 := HO.out.stored k (.int .i64 q)
        refine ⟨k + 1, _, by omega, by go_num, t0.1, hb.setCell (p := ⟨w.heap.size, _, none⟩) (Nat.le_refl _) _, ?_⟩
        intro j p hj hp
        by_cases hjk : j = k
        · subst hjk
          rw [HG.out] at hp
          cases hp
          rw [List.getElem?_set_self (by rw [HX.out]; omega)]
        · rw [List.getElem?_set_ne (by omega)]
          exact HROW.out j p (by omega) hp
      case measure => simp [intOf]; omega
    · go_wp2
      go_ret
      exact ⟨rfl, intsIn_of_row ho HLEN.out HWF.out (fun j p hp => HROW.out j p (by have := (List.getElem?_eq_some_iff.1 hp).1; rw [HLEN.out] at this; omega) hp), blockOf_row ho, (ho.lt _ rfl).2, hb⟩
structure TreeBl (lo hi : Nat) (w : World) (b1 nm b2 : Nat) (V : List (List RunD)) (b3 ns : Nat) : Prop where
  mem : EntBl lo hi w b1 nm
  levs : LevsBl lo hi w b2 V
  sn : lo ≤ b3 ∧ b3 < hi ∧ BlockOf w b3 3 (ns * 1)
theorem TreeBl.far {lo hi b1 nm b2 b3 ns : Nat} {w w' : World} {V : List (List RunD)} (h : TreeBl lo hi w b1 nm b2 V b3 ns) (k : FarS lo hi w w') : TreeBl lo hi w' b1 nm b2 V b3 ns :=
  ⟨h.mem.far k, h.levs.far k, h.sn.1, h.sn.2.1, h.sn.2.2.same (k _ h.sn.1 h.sn.2.1)⟩
theorem TreeBl.mono {lo hi lo' hi' b1 nm b2 b3 ns : Nat} {w : World} {V : List (List RunD)} (h : TreeBl lo hi w b1 nm b2 V b3 ns) (h1 : lo' ≤ lo) (h2 : hi ≤ hi') : TreeBl lo' hi' w b1 nm b2 V b3 ns :=
  ⟨h.mem.mono h1 h2, h.levs.mono h1 h2, Nat.le_trans h1 h.sn.1, Nat.lt_of_lt_of_le h.sn.2.1 h2, h.sn.2.2⟩
def ToRB (q : Int) (nm nv ns : Nat) (M : List EntD) (V : List (List RunD)) (S : List Int) (w : World) (e : Ending) (w' : World) : Prop :=
  ∃ b1 b2 b3 : Nat, e = .returned (.agg #[.int .i64 q, .slice (some ⟨b1, 0, none⟩) nm nm, .slice (some ⟨b2, 0, none⟩) nv nv, .slice (some ⟨b3, 0, none⟩) ns ns]) ∧ TreeIn w.heap.size w' (some ⟨b1, 0, none⟩) nm nm (some ⟨b2, 0, none⟩) nv nv (some ⟨b3, 0, none⟩) ns ns M V S ∧ TreeBl w.heap.size w'.heap.size w' b1 nm b2 V b3 ns ∧ Below w.heap.size w w'
set_option maxHeartbeats 1600000 in
theorem toTree_bl (q : Int) (lo : Nat) (am av ak : Option Addr) (nm cm nv cv ns cs : Nat) (M : List EntD) (V : List (List RunD)) (S : List Int) (w : World) (h : TreeIn lo w am nm cm av nv cv ak ns cs M V S) (hs : SmallT M V S) :
    Calls Tryz.prog 12 #[.agg #[.int .i64 q, .slice am nm cm, .slice av nv cv, .slice ak ns cs]] w (ToRB q nm nv ns M V S w) := by
  obtain ⟨X, hX⟩ : ∃ X, X = w.heap.size := ⟨_, rfl⟩
  obtain ⟨W, hW⟩ : ∃ W, W = ((w.alloc (.cells #[.int .i64 q, .slice am nm cm, .slice av nv cv, .slice ak ns cs] 26)).alloc (.cells #[.int .i64 0, .slice none 0 0, .slice none 0 0, .slice none 0 0] 31)).alloc (.cells #[.int .i64 q, .slice none 0 0, .slice none 0 0, .slice none 0 0] 31) := ⟨_, rfl⟩
  have kW : Below w.heap.size w W := by rw [hW]; exact (((Below.refl _ _).alloc (Nat.le_refl _) _).alloc (by simp) _).alloc (by simp; omega) _
  have bp : Box4 W X (.int .i64 q) (.slice am nm cm) (.slice av nv cv) (.slice ak ns cs) := by rw [hW, hX]; exact ((Box4.new _ _ _ _ _ _).alloc _).alloc _
  have br : Box4 W (X + 1) (.int .i64 0) (.slice none 0 0) (.slice none 0 0) (.slice none 0 0) := by
    have := (Box4.new (w.alloc (.cells #[.int .i64 q, .slice am nm cm, .slice av nv cv, .slice ak ns cs] 26)) 31 (.int .i64 0) (.slice none 0 0) (.slice none 0 0) (.slice none 0 0)).alloc (.cells #[.int .i64 q, .slice none 0 0, .slice none 0 0, .slice none 0 0] 31)
    rw [World.size_alloc] at this
    rw [hW, hX]
    exact this
  have bo : Box4 W (X + 1 + 1) (.int .i64 q) (.slice none 0 0) (.slice none 0 0) (.slice none 0 0) := by
    have := Box4.new ((w.alloc (.cells #[.int .i64 q, .slice am nm cm, .slice av nv cv, .slice ak ns cs] 26)).alloc (.cells #[.int .i64 0, .slice none 0 0, .slice none 0 0, .slice none 0 0] 31)) 31 (.int .i64 q) (.slice none 0 0) (.slice none 0 0) (.slice none 0 0)
    rw [World.size_alloc, World.size_alloc] at this
    rw [hW, hX]
    exact this
  have hsz : W.heap.size = X + 1 + 1 + 1 := by rw [hW, hX]; simp
  have H : Hid (TreeIn lo w am nm cm av nv cv ak ns cs M V S) := h
  have HS : Hid (SmallT M V S) := hs
  have hnm : nm ≤ 1048576 := by have := h.mem.1.length; have := hs.1; omega
  have hns : ns ≤ 1048576 := by have := h.snaps.length; have := hs.2.2; omega
  have HX : Hid (X = w.heap.size) := hX
  have HK : Hid (Below w.heap.size w W) := kW
  clear h hs kW
  go_enter Tryz.func12, Tryz.ntmps12
  go_wp2_with fail
  rw [← hX, ← hW]
  clear hX hW
  refine (toEntS_own _ _ _ M _ (H.out.keep HK.out).mem.1 hnm).mono ?_
  rintro e w1 ⟨rfl, hO1, hz1, hb1⟩
  have hE1 := hO1.entsAt
  have hB1 := blockOf_row hO1.owns
  clear hO1
  obtain ⟨b1, hbe1⟩ : ∃ b1, b1 = W.heap.size := ⟨_, rfl⟩
  rw [← hbe1] at hE1 hB1 hz1 ⊢
  obtain ⟨W1, hW1⟩ : ∃ W1, W1 = w1.setCell ⟨X + 1 + 1, 1, none⟩ (.slice (some ⟨b1, 0, none⟩) nm nm) := ⟨_, rfl⟩
  have bo1 : Box4 W1 (X + 1 + 1) (.int .i64 q) (.slice (some ⟨b1, 0, none⟩) nm nm) (.slice none 0 0) (.slice none 0 0) := by rw [hW1]; exact (bo.keep hb1).set1 _
  have bp1 : Box4 W1 X (.int .i64 q) (.slice am nm cm) (.slice av nv cv) (.slice ak ns cs) := by rw [hW1]; exact (bp.keep hb1).other (by omega) _
  have br1 : Box4 W1 (X + 1) (.int .i64 0) (.slice none 0 0) (.slice none 0 0) (.slice none 0 0) := by rw [hW1]; exact (br.keep hb1).other (by omega) _
  have K1 : Hid (Below w.heap.size w W1) := by rw [hW1]; exact (HK.out.trans (hb1.mono HK.out.size)).setCell (p := ⟨X + 1 + 1, 1, none⟩) (by show w.heap.size ≤ X + 1 + 1; have := HX.out; omega) _
  have S1 : Hid (Same (X + 3) W W1) := by rw [hW1]; exact (Same.of_below hb1).trans (Same.of_set _ _ (by show X + 1 + 1 < X + 3; omega))
  have hsz1 : X + 3 ≤ W1.heap.size := by have := S1.out.1; omega
  have E1 : Hid (EntsIn (X + 3) W1 (some ⟨b1, 0, none⟩) nm nm M) := by rw [hW1]; exact EntsIn.same ⟨hE1, fun x e _ => by cases e; show X + 3 ≤ b1; omega⟩ (Same.of_set _ _ (by show X + 1 + 1 < X + 3; omega))
  have F1 : Hid (EntBl (X + 3) W1.heap.size W1 b1 nm) := by rw [hW1]; exact EntBl.far ⟨by omega, by simpa [World.setCell] using hz1, hB1⟩ (FarS.of_set _ _ (by show X + 1 + 1 < X + 3; omega))
  have vo := (bo.keep hb1).c1
  have vf := (bo.keep hb1).fz
  have vp := (bp.keep hb1).c2
  have vz := (bo.keep hb1).lt
  have vz' : X < w1.heap.size := by omega
  clear hb1 bo bp br hE1 hbe1 hB1 hz1
  go_wp2_with fail
  rw [← hW1]
  clear hW1 vo vf vp vz vz'
  refine (toRunSS_bl lo _ _ _ V _ (H.out.keep K1.out).levels HS.out.2.1).mono ?_
  rintro e w2 ⟨rfl, hE2, hB2, _, hb2⟩
  obtain ⟨b2, hbe2⟩ : ∃ b2, b2 = W1.heap.size := ⟨_, rfl⟩
  rw [← hbe2] at hE2 hB2 ⊢
  obtain ⟨W2, hW2⟩ : ∃ W2, W2 = w2.setCell ⟨X + 1 + 1, 2, none⟩ (.slice (some ⟨b2, 0, none⟩) nv nv) := ⟨_, rfl⟩
  have bo2 : Box4 W2 (X + 1 + 1) (.int .i64 q) (.slice (some ⟨b1, 0, none⟩) nm nm) (.slice (some ⟨b2, 0, none⟩) nv nv) (.slice none 0 0) := by rw [hW2]; exact (bo1.keep hb2).set2 _
  have bp2 : Box4 W2 X (.int .i64 q) (.slice am nm cm) (.slice av nv cv) (.slice ak ns cs) := by rw [hW2]; exact (bp1.keep hb2).other (by omega) _
  have br2 : Box4 W2 (X + 1) (.int .i64 0) (.slice none 0 0) (.slice none 0 0) (.slice none 0 0) := by rw [hW2]; exact (br1.keep hb2).other (by omega) _
  have K2 : Hid (Below w.heap.size w W2) := by rw [hW2]; exact (K1.out.trans (hb2.mono K1.out.size)).setCell (p := ⟨X + 1 + 1, 2, none⟩) (by show w.heap.size ≤ X + 1 + 1; have := HX.out; omega) _
  have S2 : Hid (Same (X + 3) W1 W2) := by rw [hW2]; exact (Same.of_below hb2).trans (Same.of_set _ _ (by show X + 1 + 1 < X + 3; omega))
  have hsz2 : X + 3 ≤ W2.heap.size := by have := S2.out.1; omega
  have E2 : Hid (LevelsIn (X + 3) W2 (some ⟨b2, 0, none⟩) nv nv V) := by rw [hW2]; exact LevelsIn.same (hE2.mono (by omega)) (Same.of_set _ _ (by show X + 1 + 1 < X + 3; omega))
  have E1 : Hid (EntsIn (X + 3) W2 (some ⟨b1, 0, none⟩) nm nm M) := E1.out.same S2.out
  have D2 : Hid (FarS (X + 3) W1.heap.size W1 W2) := by rw [hW2]; exact (FarS.of_below hb2).trans (FarS.of_set _ _ (by show X + 1 + 1 < X + 3; omega))
  have F1 : Hid (EntBl (X + 3) W2.heap.size W2 b1 nm) := (F1.out.far D2.out).mono (Nat.le_refl _) S2.out.1
  have F2 : Hid (LevsBl (X + 3) W2.heap.size W2 b2 V) := by
    rw [hW2]
    exact (LevsBl.far (hB2.mono (lo' := X + 3) (by omega) (Nat.le_refl _)) (FarS.of_set _ _ (by show X + 1 + 1 < X + 3; omega))).mono (Nat.le_refl _) (by simp [World.setCell])
  have vo := (bo1.keep hb2).c2
  have vf := (bo1.keep hb2).fz
  have vp := (bp1.keep hb2).c3
  have vz := (bo1.keep hb2).lt
  have vz' : X < w2.heap.size := by omega
  clear hb2 bo1 bp1 br1 hE2 hbe2 hB2 D2
  go_wp2_with fail
  rw [← hW2]
  clear hW2 vo vf vp vz vz'
  refine (toIntS_bl lo _ _ _ S _ (H.out.keep K2.out).snaps hns).mono ?_
  rintro e w3 ⟨rfl, hE3, hB3, hz3, hb3⟩
  obtain ⟨b3, hbe3⟩ : ∃ b3, b3 = W2.heap.size := ⟨_, rfl⟩
  rw [← hbe3] at hE3 hB3 hz3 ⊢
  obtain ⟨W3, hW3⟩ : ∃ W3, W3 = w3.setCell ⟨X + 1 + 1, 3, none⟩ (.slice (some ⟨b3, 0, none⟩) ns ns) := ⟨_, rfl⟩
  have bo3 : Box4 W3 (X + 1 + 1) (.int .i64 q) (.slice (some ⟨b1, 0, none⟩) nm nm) (.slice (some ⟨b2, 0, none⟩) nv nv) (.slice (some ⟨b3, 0, none⟩) ns ns) := by rw [hW3]; exact (bo2.keep hb3).set3 _
  have bp3 : Box4 W3 X (.int .i64 q) (.slice am nm cm) (.slice av nv cv) (.slice ak ns cs) := by rw [hW3]; exact (bp2.keep hb3).other (by omega) _
  have br3 : Box4 W3 (X + 1) (.int .i64 0) (.slice none 0 0) (.slice none 0 0) (.slice none 0 0) := by rw [hW3]; exact (br2.keep hb3).other (by omega) _
  have K3 : Hid (Below w.heap.size w W3) := by rw [hW3]; exact (K2.out.trans (hb3.mono K2.out.size)).setCell (p := ⟨X + 1 + 1, 3, none⟩) (by show w.heap.size ≤ X + 1 + 1; have := HX.out; omega) _
  have S3 : Hid (Same (X + 3) W2 W3) := by rw [hW3]; exact (Same.of_below hb3).trans (Same.of_set _ _ (by show X + 1 + 1 < X + 3; omega))
  have hsz3 : X + 3 ≤ W3.heap.size := by have := S3.out.1; omega
  have E3 : Hid (IntsIn (X + 3) W3 (some ⟨b3, 0, none⟩) ns ns S) := by rw [hW3]; exact IntsIn.same (hE3.lower (by omega)) (Same.of_set _ _ (by show X + 1 + 1 < X + 3; omega))
  have E1 : Hid (EntsIn (X + 3) W3 (some ⟨b1, 0, none⟩) nm nm M) := E1.out.same S3.out
  have E2 : Hid (LevelsIn (X + 3) W3 (some ⟨b2, 0, none⟩) nv nv V) := E2.out.same S3.out
  have D3 : Hid (FarS (X + 3) W2.heap.size W2 W3) := by rw [hW3]; exact (FarS.of_below hb3).trans (FarS.of_set _ _ (by show X + 1 + 1 < X + 3; omega))
  have F : Hid (TreeBl (X + 3) W3.heap.size W3 b1 nm b2 V b3 ns) := ⟨(F1.out.far D3.out).mono (Nat.le_refl _) S3.out.1, (F2.out.far D3.out).mono (Nat.le_refl _) S3.out.1, by omega, by rw [hW3]; simpa [World.setCell] using hz3, by rw [hW3]; exact hB3.setCell _⟩
  have vo := (bo2.keep hb3).c3
  have vo0 := (bo2.keep hb3).c0
  have vo1 := (bo2.keep hb3).c1
  have vo2 := (bo2.keep hb3).c2
  have vf := (bo2.keep hb3).fz
  have vr0 := (br2.keep hb3).c0
  have vr1 := (br2.keep hb3).c1
  have vr2 := (br2.keep hb3).c2
  have vr3 := (br2.keep hb3).c3
  have vrf := (br2.keep hb3).fz
  have vz := (bo2.keep hb3).lt
  have vz' : X + 1 < w3.heap.size := by omega
  clear hb3 bo2 bp2 br2 hE3 hbe3 hB3 hz3 D3 F1 F2
  go_wp2
  rw [← hW3]
  refine bodyPost_ret (v := .agg #[.int .i64 q, .slice (some ⟨b1, 0, none⟩) nm nm, .slice (some ⟨b2, 0, none⟩) nv nv, .slice (some ⟨b3, 0, none⟩) ns ns]) ?_ rfl ⟨b1, b2, b3, rfl, ?_, ?_, ?_⟩
  · have c0 := (((br3.set0 (.int .i64 q)).set1 (.slice (some ⟨b1, 0, none⟩) nm nm)).set2 (.slice (some ⟨b2, 0, none⟩) nv nv)).set3 (.slice (some ⟨b3, 0, none⟩) ns ns)
    simp [results, Tryz.results12, go_sem, c0.c0, c0.c1, c0.c2, c0.c3]
  · have hm : Same (X + 3) W3 ((((W3.setCell ⟨X + 1, 0, none⟩ (.int .i64 q)).setCell ⟨X + 1, 1, none⟩ (.slice (some ⟨b1, 0, none⟩) nm nm)).setCell ⟨X + 1, 2, none⟩ (.slice (some ⟨b2, 0, none⟩) nv nv)).setCell ⟨X + 1, 3, none⟩ (.slice (some ⟨b3, 0, none⟩) ns ns)) := (((Same.of_set _ _ (by show X + 1 < X + 3; omega)).trans (Same.of_set _ _ (by show X + 1 < X + 3; omega))).trans (Same.of_set _ _ (by show X + 1 < X + 3; omega))).trans (Same.of_set _ _ (by show X + 1 < X + 3; omega))
    have hx := HX.out
    exact ⟨(E1.out.same hm).mono (by omega), (E2.out.same hm).mono (by omega), (E3.out.same hm).lower (by omega)⟩
  · have hx := HX.out
    refine (TreeBl.far (F.out.mono (lo' := X + 3) (Nat.le_refl _) (Nat.le_refl _)) ((((FarS.of_set _ _ (by show X + 1 < X + 3; omega)).trans (FarS.of_set _ _ (by show X + 1 < X + 3; omega))).trans (FarS.of_set _ _ (by show X + 1 < X + 3; omega))).trans (FarS.of_set _ _ (by show X + 1 < X + 3; omega)))).mono (by omega) (by simp [World.setCell])
  · have hx : w.heap.size ≤ X + 1 := by have := HX.out; omega
    exact (((K3.out.setCell (p := ⟨X + 1, 0, none⟩) hx _).setCell (p := ⟨X + 1, 1, none⟩) hx _).setCell (p := ⟨X + 1, 2, none⟩) hx _).setCell (p := ⟨X + 1, 3, none⟩) hx _
end Go.Proofs.YtlmgojlffgkciaaGreat
