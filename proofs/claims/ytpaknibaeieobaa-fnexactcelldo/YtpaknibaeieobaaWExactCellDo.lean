/-
  The walk of the law FnExactCellDo: it answers true at every two arguments.
-/
import Derived.Test.YtpaknibaeieobaaCellI
import Derived.Test.YtpaknibaeieobaaLawCell
import Derived.Deep.RegionHeld3
import Derived.Deep.DeepCutAuto
namespace Go.Proofs.Ytpaknibaeieobaa
open Go.RowKit

attribute [local go_sem] Oper.semAt_some

/-- A new box of a cell, with nothing in it. -/
def BoxC (w : World) (Z : Nat) : Prop := w.cell? ⟨Z, 0, none⟩ = some (.bool false) ∧ w.cell? ⟨Z, 1, none⟩ = some (.string ⟨#[]⟩) ∧ w.cell? ⟨Z, 2, none⟩ = some (.int .i64 0) ∧ w.frozen? ⟨Z, 0, none⟩ = false ∧ w.frozen? ⟨Z, 1, none⟩ = false ∧ w.frozen? ⟨Z, 2, none⟩ = false ∧ Z < w.heap.size
theorem BoxC.new (w : World) (T : TypeId) : BoxC (w.alloc (.cells #[.bool false, .string ⟨#[]⟩, .int .i64 0] T)) w.heap.size := by
  refine ⟨?_, ?_, ?_, World.frozen?_alloc_new w _ _ _, World.frozen?_alloc_new w _ _ _, World.frozen?_alloc_new w _ _ _, ?_⟩ <;> simp
theorem BoxC.newD (w : World) (T : TypeId) : BoxC (w.alloc (.cells #[.bool false, .string ⟨#[]⟩, .int .i64 0] T)).drew w.heap.size := BoxC.new w T
theorem BoxC.later {w w' : World} {Z : Nat} (h : BoxC w Z) (hb : Below w.heap.size w w') : BoxC w' Z := by
  obtain ⟨a, b, c, d, e, f, g⟩ := h
  exact ⟨cell_later hb a, cell_later hb b, cell_later hb c, (hb.frozen (p := ⟨Z, 0, none⟩) g).trans d, (hb.frozen (p := ⟨Z, 1, none⟩) g).trans e, (hb.frozen (p := ⟨Z, 2, none⟩) g).trans f, Nat.lt_of_lt_of_le g hb.size⟩
/-- A box of a cell with these parts, in new memory. -/
def CutC (W : World) (cb : Bool) (ct : ByteArray) (cn : Int) (s : Value) (V : World) : Prop := ∃ Z, s = .pointer (some ⟨Z, 0, none⟩) ∧ V.cell? ⟨Z, 0, none⟩ = some (.bool cb) ∧ V.cell? ⟨Z, 1, none⟩ = some (.string ct) ∧ V.cell? ⟨Z, 2, none⟩ = some (.int .i64 cn) ∧ Below W.heap.size W V
theorem CutC.new {W w : World} (h : Below W.heap.size W w) (cb : Bool) (ct : ByteArray) (cn : Int) (T : TypeId) : CutC W cb ct cn (.pointer (some ⟨w.heap.size, 0, none⟩)) (w.alloc (.cells #[.bool cb, .string ct, .int .i64 cn] T)) :=
  ⟨_, rfl, by simp, by simp, by simp, h.alloc h.size _⟩
theorem CutC.set {W w : World} {Z : Nat} (h : Below W.heap.size W w) (hb : BoxC w Z) (hZ : W.heap.size ≤ Z) (cb : Bool) (ct : ByteArray) (cn : Int) : CutC W cb ct cn (.pointer (some ⟨Z, 0, none⟩)) (((w.setCell ⟨Z, 0, none⟩ (.bool cb)).setCell ⟨Z, 1, none⟩ (.string ct)).setCell ⟨Z, 2, none⟩ (.int .i64 cn)) := by
  obtain ⟨a, b, c, _⟩ := hb
  refine ⟨Z, rfl, ?_, ?_, ?_, ((h.setCell (p := ⟨Z, 0, none⟩) hZ _).setCell (p := ⟨Z, 1, none⟩) hZ _).setCell (p := ⟨Z, 2, none⟩) hZ _⟩ <;> simp [a, b, c, go_sem]

set_option maxRecDepth 100000 in
set_option maxHeartbeats 2000000 in
theorem walkFnExactCellDo (a0 : CellD) (a1 : EntD) (w : World) (w0 : CellW a0) (w1 : EntW a1) :
    Calls Try.prog 6 #[.agg #[.bool a0.1, .string a0.2.1, .int .i64 a0.2.2], .agg #[.string a1.1, .int .i64 a1.2.1, .int .i64 a1.2.2.1, .string a1.2.2.2.1, .int .i64 a1.2.2.2.2]] w fun e w' => e = .returned (.bool true) ∧ Below w.heap.size w w' := by
  obtain ⟨b, t, n⟩ := a0
  obtain ⟨k', q', d', t', n'⟩ := a1
  obtain ⟨ht, _⟩ := w0
  obtain ⟨gk, _, _, gt, _⟩ := w1
  simp only at ht gk gt ⊢
  have ht' := ht
  have gk' := gk
  have gt' := gt
  unfold maxLen at ht' gk' gt'
  have kB : Below w.heap.size w ((w.alloc (.cells #[.bool b, .string t, .int .i64 n] 33)).alloc (.cells #[.string k', .int .i64 q', .int .i64 d', .string t', .int .i64 n'] 24)) := ((Below.refl _ _).alloc (Nat.le_refl _) _).alloc (by simp) _
  by_cases hbig : 1048576 < t.size
  · go_enter Try.func6, Try.ntmps6
    go_wp2_with (go_at_call 23; refine (szCell_no _ _ _ _ _ ht (by omega) (by omega) (by omega)).mono ?_; rintro e w1 ⟨rfl, hb1⟩; obtain ⟨hc1, hf1⟩ := bcell hb1)
    go_ret
    exact ⟨rfl, kB.trans (hb1.mono (by simp; omega))⟩
  · go_enter Try.func6, Try.ntmps6
    go_wp2_with fail
    refine (szCell_yes _ _ _ _ _ (by omega) (by omega)).mono ?_
    rintro e w1 ⟨rfl, hb1⟩
    obtain ⟨hc1, hf1⟩ := bcell hb1
    have hz1 : w.heap.size + 1 < w1.heap.size := by have := hb1.size; simp at this; omega
    have k1 : Below w.heap.size w w1 := kB.trans (hb1.mono (by simp; omega))
    clear kB
    by_cases hbig2 : (1048576 : Int) - t.size < k'.size + t'.size
    · go_wp2_with (go_at_call 17; refine (szEnt_no _ _ _ _ _ _ _ gk gt (by omega) (by omega) (by omega)).mono ?_; rintro e w2 ⟨rfl, hb2⟩; obtain ⟨hc2, hf2⟩ := bcell hb2)
      go_ret
      exact ⟨rfl, k1.trans (hb2.mono (by omega))⟩
    go_wp2_with fail
    refine (szEnt_yes _ _ _ _ _ _ _ (by omega) (by omega)).mono ?_
    rintro e w2 ⟨rfl, hb2⟩
    obtain ⟨hc2, hf2⟩ := bcell hb2
    have hz2 : w.heap.size + 1 < w2.heap.size := by have := hb2.size; omega
    have k2 : Below w.heap.size w w2 := k1.trans (hb2.mono (by omega))
    obtain ⟨X, hX⟩ : ∃ X, X = w.heap.size := ⟨_, rfl⟩
    have x00 : w2.cell? ⟨X, 0, none⟩ = some (.bool b) := by rw [hX]; exact (hc2 _ _ (by omega)).trans ((hc1 _ _ (by simp only [World.size_alloc]; omega)).trans (by simp))
    have x01 : w2.cell? ⟨X, 1, none⟩ = some (.string t) := by rw [hX]; exact (hc2 _ _ (by omega)).trans ((hc1 _ _ (by simp only [World.size_alloc]; omega)).trans (by simp))
    have x02 : w2.cell? ⟨X, 2, none⟩ = some (.int .i64 n) := by rw [hX]; exact (hc2 _ _ (by omega)).trans ((hc1 _ _ (by simp only [World.size_alloc]; omega)).trans (by simp))
    have x10 : w2.cell? ⟨X + 1, 0, none⟩ = some (.string k') := by rw [hX]; exact (hc2 _ _ (by omega)).trans ((hc1 _ _ (by simp only [World.size_alloc]; omega)).trans (by simp))
    have x11 : w2.cell? ⟨X + 1, 1, none⟩ = some (.int .i64 q') := by rw [hX]; exact (hc2 _ _ (by omega)).trans ((hc1 _ _ (by simp only [World.size_alloc]; omega)).trans (by simp))
    have x12 : w2.cell? ⟨X + 1, 2, none⟩ = some (.int .i64 d') := by rw [hX]; exact (hc2 _ _ (by omega)).trans ((hc1 _ _ (by simp only [World.size_alloc]; omega)).trans (by simp))
    have x13 : w2.cell? ⟨X + 1, 3, none⟩ = some (.string t') := by rw [hX]; exact (hc2 _ _ (by omega)).trans ((hc1 _ _ (by simp only [World.size_alloc]; omega)).trans (by simp))
    have x14 : w2.cell? ⟨X + 1, 4, none⟩ = some (.int .i64 n') := by rw [hX]; exact (hc2 _ _ (by omega)).trans ((hc1 _ _ (by simp only [World.size_alloc]; omega)).trans (by simp))
    clear hc1 hc2 hf1 hf2
    go_wp2_with fail
    simp only [← hX] at hz2 ⊢
    have HK : Hid (Below w.heap.size w w2) := k2
    clear k2 k1 hb1 hb2 hz1
    clear hX
    obtain ⟨W, hW⟩ : ∃ W, W = w2 := ⟨_, rfl⟩
    rw [← hW] at x00 x01 x02 x10 x11 x12 x13 x14 HK hz2 ⊢
    clear hW w2

    obtain ⟨cb, ct, cn, hc⟩ : ∃ cb ct cn, cellN b t n d' t' n' = (cb, ct, cn) := ⟨_, _, _, rfl⟩
    have cS : ∀ w, Calls Try.prog 24 #[.agg #[.bool b, .string t, .int .i64 n], .agg #[.string k', .int .i64 q', .int .i64 d', .string t', .int .i64 n']] w fun e w' => e = .returned (.agg #[.bool cb, .string ct, .int .i64 cn]) ∧ Below w.heap.size w w' := fun w => (specCell b t k' t' n q' d' n' w).mono (fun e w' h => by rw [hc] at h; exact h)
    have cI : ∀ w, Calls Try.prog 26 #[.agg #[.bool b, .string t, .int .i64 n], .agg #[.string k', .int .i64 q', .int .i64 d', .string t', .int .i64 n']] w fun e w' => e = .returned (.agg #[.bool cb, .string ct, .int .i64 cn]) ∧ Below w.heap.size w w' := fun w => (implCell b t k' t' n q' d' n' w (by omega) (by omega)).mono (fun e w' h => by rw [hc] at h; exact h)
    clear hc
    have k0 : Below W.heap.size W W.drew := (Below.refl _ W).drew
    have HMK : Hid (∀ w', Below W.heap.size W w' → (w'.cell? ⟨X, 0, none⟩ = some (.bool b) ∧ w'.cell? ⟨X, 1, none⟩ = some (.string t) ∧ w'.cell? ⟨X, 2, none⟩ = some (.int .i64 n) ∧ w'.cell? ⟨X + 1, 0, none⟩ = some (.string k') ∧ w'.cell? ⟨X + 1, 1, none⟩ = some (.int .i64 q') ∧ w'.cell? ⟨X + 1, 2, none⟩ = some (.int .i64 d') ∧ w'.cell? ⟨X + 1, 3, none⟩ = some (.string t') ∧ w'.cell? ⟨X + 1, 4, none⟩ = some (.int .i64 n') ∧ X + 1 < w'.heap.size ∧ Below W.heap.size W w')) := fun w' k => ⟨cell_later k x00, cell_later k x01, cell_later k x02, cell_later k x10, cell_later k x11, cell_later k x12, cell_later k x13, cell_later k x14, World.block_lt_of_cell? _ _ (cell_later k x10), k⟩
    have le0 : W.heap.size ≤ W.heap.size := Nat.le_refl _
    go_cut [6] (fun s V => CutC W cb ct cn s V)
    case first =>
      go_region_held3 (fun w' => w'.cell? ⟨X, 0, none⟩ = some (.bool b) ∧ w'.cell? ⟨X, 1, none⟩ = some (.string t) ∧ w'.cell? ⟨X, 2, none⟩ = some (.int .i64 n) ∧ w'.cell? ⟨X + 1, 0, none⟩ = some (.string k') ∧ w'.cell? ⟨X + 1, 1, none⟩ = some (.int .i64 q') ∧ w'.cell? ⟨X + 1, 2, none⟩ = some (.int .i64 d') ∧ w'.cell? ⟨X + 1, 3, none⟩ = some (.string t') ∧ w'.cell? ⟨X + 1, 4, none⟩ = some (.int .i64 n') ∧ X + 1 < w'.heap.size ∧ Below W.heap.size W w') (first | exact HMK.out _ k3 | exact HMK.out _ (k3.alloc k3.size _) | exact HMK.out _ (((k3.setCell (p := ⟨_, 0, none⟩) (by assumption) _).setCell (p := ⟨_, 1, none⟩) (by assumption) _).setCell (p := ⟨_, 2, none⟩) (by assumption) _) | exact HMK.out _ k2 | exact HMK.out _ (k2.alloc k2.size _) | exact HMK.out _ (((k2.setCell (p := ⟨_, 0, none⟩) (by assumption) _).setCell (p := ⟨_, 1, none⟩) (by assumption) _).setCell (p := ⟨_, 2, none⟩) (by assumption) _) | exact HMK.out _ k1 | exact HMK.out _ (k1.alloc k1.size _) | exact HMK.out _ (((k1.setCell (p := ⟨_, 0, none⟩) (by assumption) _).setCell (p := ⟨_, 1, none⟩) (by assumption) _).setCell (p := ⟨_, 2, none⟩) (by assumption) _) | exact HMK.out _ k0 | exact HMK.out _ (k0.alloc k0.size _) | exact HMK.out _ (((k0.setCell (p := ⟨_, 0, none⟩) (by assumption) _).setCell (p := ⟨_, 1, none⟩) (by assumption) _).setCell (p := ⟨_, 2, none⟩) (by assumption) _) | exact HMK.out _ ((Below.refl _ W).alloc (Nat.le_refl _) _).drew) (first
        | (go_at_call 24; refine (cS _).mono ?_; rintro e w3 ⟨rfl, hb3⟩; have k3 : Below W.heap.size W w3 := (by first | exact k2.trans (hb3.mono k2.size) | exact ((k2.alloc k2.size _)).trans (hb3.mono (by have := k2.size; simp; omega)) | exact ((k2.alloc k2.size _)).trans (hb3.mono (by simp))); have sz3 := k3.size; (first | (have bx3 := BoxC.later bx2 hb3) | (have bx3 : BoxC w3 w2.heap.size := BoxC.later (BoxC.new w2 _) hb3) | skip); (first | (have bz3 := bx3; obtain ⟨g0, g1, g2, g3, g4, g5, g6⟩ := bz3) | skip))
        | (have _ := k1; go_at_call 19; refine (toEnt_any k' t' q' d' n' _).mono ?_; rintro e w2 ⟨rfl, hb2⟩; have k2 : Below W.heap.size W w2 := (by first | exact k1.trans (hb2.mono k1.size) | exact ((k1.alloc k1.size _)).trans (hb2.mono (by have := k1.size; simp; omega)) | exact ((k1.alloc k1.size _)).trans (hb2.mono (by simp))); have sz2 := k2.size; (first | (have bx2 := BoxC.later bx1 hb2) | (have bx2 : BoxC w2 w1.heap.size := BoxC.later (BoxC.new w1 _) hb2) | skip))
        | (go_at_call 25; refine (toCell_any b t n _).mono ?_; rintro e w1 ⟨rfl, hb1⟩; have k1 : Below W.heap.size W w1 := (by first | exact k0.trans (hb1.mono k0.size) | exact (((Below.refl _ W).alloc (Nat.le_refl _) _).drew).trans (hb1.mono (by have := k0.size; simp; omega)) | exact (((Below.refl _ W).alloc (Nat.le_refl _) _).drew).trans (hb1.mono (by simp))); have sz1 := k1.size; (first | (have bx1 : BoxC w1 W.heap.size := BoxC.later (BoxC.newD W _) hb1) | skip)))
      all_goals
        go_wp2
        go_meet
        first | exact CutC.new k3 cb ct cn _ | exact CutC.set k3 bx3 (by assumption) cb ct cn
    case rest =>
    obtain ⟨Z, rfl, z0, z1, z2, kV⟩ := hcut
    have HK2 : Hid (Below w.heap.size w wc) := HK.out.trans (kV.mono HK.out.size)
    have y00 := cell_later kV x00
    have y01 := cell_later kV x01
    have y02 := cell_later kV x02
    have y10 := cell_later kV x10
    have y11 := cell_later kV x11
    have y12 := cell_later kV x12
    have y13 := cell_later kV x13
    have y14 := cell_later kV x14
    clear x00 x01 x02 x10 x11 x12 x13 x14 cS HK k0 HMK le0 hz2 kV
    go_wp2_with fail
    have m0 : Below wc.heap.size wc wc.drew := (Below.refl _ wc).drew
    have HM2 : Hid (∀ w', Below wc.heap.size wc w' → (w'.cell? ⟨X, 0, none⟩ = some (.bool b) ∧ w'.cell? ⟨X, 1, none⟩ = some (.string t) ∧ w'.cell? ⟨X, 2, none⟩ = some (.int .i64 n) ∧ w'.cell? ⟨X + 1, 0, none⟩ = some (.string k') ∧ w'.cell? ⟨X + 1, 1, none⟩ = some (.int .i64 q') ∧ w'.cell? ⟨X + 1, 2, none⟩ = some (.int .i64 d') ∧ w'.cell? ⟨X + 1, 3, none⟩ = some (.string t') ∧ w'.cell? ⟨X + 1, 4, none⟩ = some (.int .i64 n') ∧ w'.cell? ⟨Z, 0, none⟩ = some (.bool cb) ∧ w'.cell? ⟨Z, 1, none⟩ = some (.string ct) ∧ w'.cell? ⟨Z, 2, none⟩ = some (.int .i64 cn) ∧ X + 1 < w'.heap.size ∧ Below wc.heap.size wc w')) := fun w' k => ⟨cell_later k y00, cell_later k y01, cell_later k y02, cell_later k y10, cell_later k y11, cell_later k y12, cell_later k y13, cell_later k y14, cell_later k z0, cell_later k z1, cell_later k z2, World.block_lt_of_cell? _ _ (cell_later k y10), k⟩
    have le1 : wc.heap.size ≤ wc.heap.size := Nat.le_refl _
    go_cut [7] (fun s V => CutC wc cb ct cn s V)
    case first =>
      go_region_held3 (fun w' => w'.cell? ⟨X, 0, none⟩ = some (.bool b) ∧ w'.cell? ⟨X, 1, none⟩ = some (.string t) ∧ w'.cell? ⟨X, 2, none⟩ = some (.int .i64 n) ∧ w'.cell? ⟨X + 1, 0, none⟩ = some (.string k') ∧ w'.cell? ⟨X + 1, 1, none⟩ = some (.int .i64 q') ∧ w'.cell? ⟨X + 1, 2, none⟩ = some (.int .i64 d') ∧ w'.cell? ⟨X + 1, 3, none⟩ = some (.string t') ∧ w'.cell? ⟨X + 1, 4, none⟩ = some (.int .i64 n') ∧ w'.cell? ⟨Z, 0, none⟩ = some (.bool cb) ∧ w'.cell? ⟨Z, 1, none⟩ = some (.string ct) ∧ w'.cell? ⟨Z, 2, none⟩ = some (.int .i64 cn) ∧ X + 1 < w'.heap.size ∧ Below wc.heap.size wc w') (first | exact HM2.out _ m3 | exact HM2.out _ (m3.alloc m3.size _) | exact HM2.out _ (((m3.setCell (p := ⟨_, 0, none⟩) (by assumption) _).setCell (p := ⟨_, 1, none⟩) (by assumption) _).setCell (p := ⟨_, 2, none⟩) (by assumption) _) | exact HM2.out _ m2 | exact HM2.out _ (m2.alloc m2.size _) | exact HM2.out _ (((m2.setCell (p := ⟨_, 0, none⟩) (by assumption) _).setCell (p := ⟨_, 1, none⟩) (by assumption) _).setCell (p := ⟨_, 2, none⟩) (by assumption) _) | exact HM2.out _ m1 | exact HM2.out _ (m1.alloc m1.size _) | exact HM2.out _ (((m1.setCell (p := ⟨_, 0, none⟩) (by assumption) _).setCell (p := ⟨_, 1, none⟩) (by assumption) _).setCell (p := ⟨_, 2, none⟩) (by assumption) _) | exact HM2.out _ m0 | exact HM2.out _ (m0.alloc m0.size _) | exact HM2.out _ (((m0.setCell (p := ⟨_, 0, none⟩) (by assumption) _).setCell (p := ⟨_, 1, none⟩) (by assumption) _).setCell (p := ⟨_, 2, none⟩) (by assumption) _) | exact HM2.out _ ((Below.refl _ wc).alloc (Nat.le_refl _) _).drew) (first
        | (go_at_call 26; refine (cI _).mono ?_; rintro e u3 ⟨rfl, hb3⟩; have m3 : Below wc.heap.size wc u3 := (by first | exact m2.trans (hb3.mono m2.size) | exact ((m2.alloc m2.size _)).trans (hb3.mono (by have := m2.size; simp; omega)) | exact ((m2.alloc m2.size _)).trans (hb3.mono (by simp))); have sz3 := m3.size; (first | (have bx3 := BoxC.later bx2 hb3) | (have bx3 : BoxC u3 u2.heap.size := BoxC.later (BoxC.new u2 _) hb3) | skip); (first | (have bz3 := bx3; obtain ⟨g0, g1, g2, g3, g4, g5, g6⟩ := bz3) | skip))
        | (have _ := m1; go_at_call 19; refine (toEnt_any k' t' q' d' n' _).mono ?_; rintro e u2 ⟨rfl, hb2⟩; have m2 : Below wc.heap.size wc u2 := (by first | exact m1.trans (hb2.mono m1.size) | exact ((m1.alloc m1.size _)).trans (hb2.mono (by have := m1.size; simp; omega)) | exact ((m1.alloc m1.size _)).trans (hb2.mono (by simp))); have sz2 := m2.size; (first | (have bx2 := BoxC.later bx1 hb2) | (have bx2 : BoxC u2 u1.heap.size := BoxC.later (BoxC.new u1 _) hb2) | skip))
        | (go_at_call 25; refine (toCell_any b t n _).mono ?_; rintro e u1 ⟨rfl, hb1⟩; have m1 : Below wc.heap.size wc u1 := (by first | exact m0.trans (hb1.mono m0.size) | exact (((Below.refl _ wc).alloc (Nat.le_refl _) _).drew).trans (hb1.mono (by have := m0.size; simp; omega)) | exact (((Below.refl _ wc).alloc (Nat.le_refl _) _).drew).trans (hb1.mono (by simp))); have sz1 := m1.size; (first | (have bx1 : BoxC u1 wc.heap.size := BoxC.later (BoxC.newD wc _) hb1) | skip)))
      all_goals
        go_wp2
        go_meet
        first | exact CutC.new m3 cb ct cn _ | exact CutC.set m3 bx3 (by assumption) cb ct cn
    case rest =>
    obtain ⟨Y, rfl, v0, v1, v2, kU⟩ := hcut
    have s0 := cell_later kU z0
    have s1 := cell_later kU z1
    have s2 := cell_later kU z2
    have l0 := World.block_lt_of_cell? _ _ s0
    have l1 := World.block_lt_of_cell? _ _ v0
    have HK3 := HK2.out.trans (kU.mono HK2.out.size)
    clear z0 z1 z2 kU y00 y01 y02 y10 y11 y12 y13 y14 cI m0 HM2
    go_wp2_with fail
    refine (eqCell_same cb ct cn _).mono ?_
    rintro e u4 ⟨rfl, hb4⟩
    go_wp2
    go_ret
    exact ⟨rfl, HK3.trans (hb4.mono HK3.size)⟩

end Go.Proofs.Ytpaknibaeieobaa
