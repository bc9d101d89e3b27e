/-
  What the program's RunOf answers at every list of entries, by a walk of its Go text.
-/
import Derived.Test.YtkdalacclafihaaBn27
import Derived.Test.YtkdalacclafihaaBn31
import Derived.Test.YtkdalacclafihaaBn39
import Derived.Test.YtkdalacclafihaaBn22
namespace Go.Proofs.Ytkdalacclafihaa
open Go.RowKit

theorem cloneE_ex (a : Option Addr) (len cap : Nat) (L : List EntD) (w : World) (hL : EntsAt w a len cap L) (hbig : len ≤ 1048576) (hsm : ∀ e ∈ L, e.1.size ≤ 281474976710656 ∧ e.2.2.2.1.size ≤ 281474976710656) :
    Calls Try.prog 35 #[.slice a len cap] w fun e w' => ∃ Z, e = .returned (.slice (some ⟨Z, 0, none⟩) len len) ∧ w.heap.size ≤ Z ∧ OwnE w' w.heap.size Z len len L ∧ Below w.heap.size w w' := by
  refine (cloneE_any a len cap L w hL hbig hsm).mono ?_
  rintro e w' ⟨rfl, h1, _, h2⟩
  exact ⟨_, rfl, Nat.le_refl _, h1, h2⟩
theorem ent_sizes {k t : ByteArray} {q d n : Int} (h : entB k q d t n = true) : k.size ≤ 281474976710656 ∧ t.size ≤ 281474976710656 := by
  simp only [entB, keyB, Bool.and_eq_true, decide_eq_true_eq] at h
  omega
theorem right_small {L : List EntD} (h : rightB L = true) : ∀ e ∈ L, e.1.size ≤ 281474976710656 ∧ e.2.2.2.1.size ≤ 281474976710656 := fun e he => by
  obtain ⟨i, hi, rfl⟩ := List.getElem_of_mem he
  exact ent_sizes (right_ent h (List.getElem?_eq_getElem hi))
/-- The result's block and the run's block, in a world that has kept what lay below. -/
structure Of8 (w wi : World) (X Y : Nat) (m : Int) : Prop where
  all : Below w.heap.size w wi
  r0 : ∃ v, wi.cell? ⟨X, 0, none⟩ = some v
  r1 : ∃ v, wi.cell? ⟨X, 1, none⟩ = some v
  fr : ∀ o, wi.frozen? ⟨X, o, none⟩ = false
  y1 : wi.cell? ⟨Y, 1, none⟩ = some (.int .i64 m)
theorem Of8.ltX {w wi : World} {X Y : Nat} {m : Int} (h : Of8 w wi X Y m) : X < wi.heap.size := by
  obtain ⟨v, hv⟩ := h.r0
  exact World.block_lt_of_cell? _ _ hv
theorem Of8.call {w wi wj : World} {X Y : Nat} {m : Int} (h : Of8 w wi X Y m) (hb : Below wi.heap.size wi wj) : Of8 w wj X Y m :=
  ⟨h.all.trans (hb.mono h.all.size), by obtain ⟨v, hv⟩ := h.r0; exact ⟨v, cell_later hb hv⟩, by obtain ⟨v, hv⟩ := h.r1; exact ⟨v, cell_later hb hv⟩, fun o => (hb.frozen (p := ⟨X, o, none⟩) h.ltX).trans (h.fr o), cell_later hb h.y1⟩
theorem cell_some {w : World} {X o p : Nat} {v u : Value} (h : w.cell? ⟨X, p, none⟩ = some v) : ∃ z, (w.setCell ⟨X, o, none⟩ u).cell? ⟨X, p, none⟩ = some z := by
  by_cases hp : p = o
  · subst hp
    exact ⟨u, World.cell?_setCell_same' _ _ _ (by rw [h]; rfl)⟩
  · exact ⟨v, by rw [World.cell?_setCell_other _ _ _ _ (by intro e; cases e; exact hp rfl)]; exact h⟩
theorem Of8.store {w wi : World} {X Y : Nat} {m : Int} (h : Of8 w wi X Y m) (o : Nat) (u : Value) (hXY : X ≠ Y) (hX : w.heap.size ≤ X) : Of8 w (wi.setCell ⟨X, o, none⟩ u) X Y m :=
  ⟨h.all.setCell (p := ⟨X, o, none⟩) hX _, by obtain ⟨v, hv⟩ := h.r0; exact cell_some hv, by obtain ⟨v, hv⟩ := h.r1; exact cell_some hv, fun q => by rw [World.frozen?_setCell]; exact h.fr q, by rw [World.cell?_setCell_other _ _ _ _ (by intro e; cases e; exact hXY rfl)]; exact h.y1⟩

set_option maxRecDepth 100000 in
set_option maxHeartbeats 4000000 in
theorem implRunOf (b len cap : Nat) (L : List EntD) (w : World) (hL : EntsAt w (some ⟨b, 0, none⟩) len cap L) :
    Calls Try.prog 20 #[.slice (some ⟨b, 0, none⟩) len cap] w (OfR (ofL L) (ofM L) (ofB L) w) := by
  have HLEN : Hid (L.length = len) := hL.length
  have hbl := hL.room
  have hbc := hL.big
  unfold maxLen at hbc
  have kA : Below w.heap.size w (w.alloc (.cells #[.slice none 0 0, .int .i64 0] 42)) := (Below.refl _ _).alloc (Nat.le_refl _) _
  by_cases h2 : 150 < len
  · have h2' : (150 : Int) < (len : Int) := by omega
    go_enter Try.func20, Try.ntmps20
    go_wp2
    refine bodyPost_ret (v := .tuple #[.agg #[.slice none 0 0, .int .i64 0], .bool false]) (by simp [results, Try.results20, go_sem]) rfl ?_
    exact of_no (by have := HLEN.out; simp only [ofB, decide_eq_false (show ¬ L.length ≤ 150 by omega), Bool.false_and, Bool.and_false]) kA
  have h2' : ¬ (150 : Int) < (len : Int) := by omega
  have HL : Hid (EntsAt w (some ⟨b, 0, none⟩) len cap L) := hL
  clear hL
  go_enter Try.func20, Try.ntmps20
  go_wp2_with fail
  refine (cloneRow b len cap L _ (HL.out.keep kA) (by omega)).mono ?_
  rintro e w1 ⟨g, c, rfl, hO1, hb1⟩
  obtain ⟨X, hX⟩ : ∃ X, X = w.heap.size := ⟨_, rfl⟩
  have HXw : Hid (w.heap.size ≤ X) := by rw [hX]; exact Nat.le_refl _
  have x1 : w1.cell? ⟨X, 0, none⟩ = some (.slice none 0 0) := cell_later hb1 (by rw [hX]; simp)
  have y1 : w1.cell? ⟨X, 1, none⟩ = some (.int .i64 0) := cell_later hb1 (by rw [hX]; simp)
  have f1 : ∀ o, w1.frozen? ⟨X, o, none⟩ = false := fun o => (hb1.frozen (p := ⟨X, o, none⟩) (by rw [hX]; simp)).trans (by rw [hX]; simp)
  have hgX : X < g := by have := hO1.lt.1; simp at this; omega
  have HO1 : Hid (OwnE w1 w.heap.size g len c L) := hO1.mono (by simp)
  have HB1 : Hid (Below w.heap.size w w1) := kA.trans (hb1.mono kA.size)
  have hX1 := World.block_lt_of_cell? _ _ x1
  simp only at hX1
  have hXg : X ≠ g := by omega
  rw [← hX]
  clear hO1 hb1 kA hX
  go_wp2_with fail
  refine (sortRow w.heap.size g len c L w1 HO1.out (by omega)).mono ?_
  rintro e w2 ⟨rfl, D, hWk, hPm, hE2, hg2⟩
  have x2 : w2.cell? ⟨X, 0, none⟩ = some (.slice none 0 0) := (grown_cell hg2 (x := ⟨X, 0, none⟩) hX1 hXg).trans x1
  have y2 : w2.cell? ⟨X, 1, none⟩ = some (.int .i64 0) := (grown_cell hg2 (x := ⟨X, 1, none⟩) hX1 hXg).trans y1
  have f2 : ∀ o, w2.frozen? ⟨X, o, none⟩ = false := fun o => by
    have hk := hg2.block X hX1 (fun e => hXg (by cases e; rfl))
    have := f1 o
    simpa [World.frozen?, hk] using this
  have HB2 : Hid (Below w.heap.size w w2) := HB1.out.grown hg2 HB1.out.size (fun k e => by cases e; exact HO1.out.lt.1)
  have HS : Hid (rightB D = rightB (sortE L) ∧ (rightB D = true → D = sortE L)) := sorted_same hWk hPm
  have HDL : Hid (D.length = len) := hE2.length
  have HE2 : Hid (EntsAt w2 (some ⟨g, 0, none⟩) len c D) := hE2
  clear hWk hPm hE2 hg2 HO1 HB1 x1 y1 f1 hX1
  go_wp2_with fail
  refine (implMaskL _ len c D w2 HE2.out).mono ?_
  rintro e w3 ⟨rfl, hb3⟩
  obtain ⟨M, hM⟩ : ∃ M : Int, M = ((maskL D : Nat) : Int) := ⟨_, rfl⟩
  have HM : Hid (M = ((maskL D : Nat) : Int)) := hM
  rw [← hM]
  clear hM
  obtain ⟨Y, hY⟩ : ∃ Y, Y = w3.heap.size := ⟨_, rfl⟩
  obtain ⟨W, hW⟩ : ∃ W, W = w3.alloc (.cells #[.slice (some ⟨g, 0, none⟩) len c, .int .i64 M] 42) := ⟨_, rfl⟩
  have k3 : Below w3.heap.size w3 W := by rw [hW]; exact (Below.refl _ _).alloc (Nat.le_refl _) _
  have k23 : Below w2.heap.size w2 W := hb3.trans (k3.mono hb3.size)
  have z0 : W.cell? ⟨Y, 0, none⟩ = some (.slice (some ⟨g, 0, none⟩) len c) := by rw [hW, hY]; simp
  have z1 : W.cell? ⟨Y, 1, none⟩ = some (.int .i64 M) := by rw [hW, hY]; simp
  have x3 := cell_later k23 x2
  have y3 := cell_later k23 y2
  have hX2 := World.block_lt_of_cell? _ _ x2
  simp only at hX2
  have f3 : ∀ o, W.frozen? ⟨X, o, none⟩ = false := fun o => (k23.frozen (p := ⟨X, o, none⟩) hX2).trans (f2 o)
  have HXY : Hid (X ≠ Y) := by have := hb3.size; unfold Hid; omega
  have HEW : Hid (EntsAt W (some ⟨g, 0, none⟩) len c D) := HE2.out.keep k23
  have HBW : Hid (Below w.heap.size w W) := HB2.out.trans (k23.mono HB2.out.size)
  have HWW : Hid (W = w3.alloc (.cells #[.slice (some ⟨g, 0, none⟩) len c, .int .i64 M] 42)) := hW
  go_wp2_with fail
  rw [← hY, ← hW]
  clear hb3 k3 k23 x2 y2 f2 hX2 HE2 HB2 hY hW HWW
  refine (implRunOk _ len c D M W HEW.out).mono ?_
  rintro e w4 ⟨rfl, hb4⟩
  have kO : Of8 w W X Y M := ⟨HBW.out, ⟨_, x3⟩, ⟨_, y3⟩, f3, z1⟩
  have k4 := kO.call hb4
  have HE4 : Hid (EntsAt w4 (some ⟨g, 0, none⟩) len c D) := HEW.out.keep hb4
  obtain ⟨v0, c0⟩ := k4.r0
  obtain ⟨v1, c1⟩ := k4.r1
  have f40 := k4.fr 0
  have f41 := k4.fr 1
  have hRB : runB D M = (decide (1 ≤ len) && rightB D) := by
    have hl := HDL.out
    rw [HM.out]
    simp [runB, hl, decide_eq_true (show len ≤ 150 by omega)]
  have hOB : ofB L = (decide (1 ≤ len) && rightB D) := by
    have hl := HLEN.out
    rw [HS.out.1]
    simp [ofB, hl, decide_eq_true (show len ≤ 150 by omega)]
  have HOB : Hid (ofB L = runB D M) := hOB.trans hRB.symm
  have HRB : Hid (runB D M = (decide (1 ≤ len) && rightB D)) := hRB
  clear hRB hOB hb4 kO x3 y3 f3 z0 z1 HEW HBW
  cases hr : runB D M with
  | false =>
    have HK4 : Hid (Of8 w w4 X Y M) := k4
    clear k4
    go_wp2
    refine bodyPost_ret (v := .tuple #[.agg #[.slice none 0 0, .int .i64 0], .bool false]) (by simp [results, Try.results20, go_sem, c0, c1]) rfl ?_
    exact of_no (HOB.out.trans hr) (((HK4.out.store 0 _ HXY.out HXw.out).store 1 _ HXY.out HXw.out).all)
  | true =>
    have hRD : rightB D = true := by have := HRB.out; rw [hr] at this; simp at this; exact this.2
    have HDS : Hid (D = sortE L) := HS.out.2 hRD
    have HSM : Hid (∀ e ∈ D, e.1.size ≤ 281474976710656 ∧ e.2.2.2.1.size ≤ 281474976710656) := right_small hRD
    clear hRD c0 c1 f40 f41
    have HED : Hid (EntsAt w4.drew (some ⟨g, 0, none⟩) len c D) := HE4.out.keep (Below.refl _ w4).drew
    have k0 : Of8 w w4.drew X Y M := k4.call (Below.refl _ w4).drew
    have HMK : Hid (∀ w', Of8 w w' X Y M → w'.cell? ⟨Y, 1, none⟩ = some (.int .i64 M)) := fun w' kk => kk.y1
    have y4 := k4.y1
    go_wp2_with fail
    refine wp_region_held_drew (S := (fun w' => w'.cell? ⟨Y, 1, none⟩ = some (.int .i64 M))) (by kernel_rfl) (HMK.out _ k0) (fun hHeld => ?_)
    refine wpAnyH_takeL (i := 0) (v := ?_) rfl (by kernel_rfl) (by kernel_rfl) (by kernel_rfl) (fun _ _ _ h => h) (Or.inl ⟨by rfl, ?_⟩) hHeld ?_
    rotate_left
    · (intro w hSw; (try dsimp only at hSw); go_simp; try with_reducible rfl)
    try go_frame
    refine wpAnyH_takeL (i := 2) (v := ?_) rfl (by kernel_rfl) (by kernel_rfl) (by kernel_rfl) (fun _ _ _ h => h) (Or.inl ⟨by rfl, ?_⟩) hHeld ?_
    rotate_left
    · (intro w hSw; (try dsimp only at hSw); go_simp; try with_reducible rfl)
    try go_frame
    refine wpAnyH_takeL (i := 3) (v := ?_) rfl (by kernel_rfl) (by kernel_rfl) (by kernel_rfl) (fun _ _ _ h => h) (Or.inl ⟨by rfl, ?_⟩) hHeld ?_
    rotate_left
    · (intro w hSw; (try dsimp only at hSw); go_simp; try with_reducible rfl)
    try go_frame
    refine wpAnyH_ready (rs := [1]) (by kernel_rfl) (by simp) ?_
    refine consL rfl (fun K hK => ?_) AllReadyH.nil
    go_simp
    refine (cloneE_ex _ len c D _ HED.out (by omega) HSM.out).mono ?_
    rintro e w6 ⟨Z, rfl, hZ, hO6, hb6⟩
    have k1 := k0.call hb6
    have HO6 : Hid (OwnE w6 w.heap.size Z len len D) := hO6.mono k0.all.size
    have hXZ : X < Z := Nat.lt_of_lt_of_le k0.ltX hZ
    clear hO6 hZ
    go_wp2_with fail
    refine hK.out _ _ (HMK.out _ k1) (fun hHeld => ?_)
    clear hK K
    try go_frame
    refine wpAnyH_takeL (i := 4) (v := ?_) rfl (by kernel_rfl) (by kernel_rfl) (by kernel_rfl) (fun _ _ _ h => h) (Or.inl ⟨by rfl, ?_⟩) hHeld ?_
    rotate_left
    · (intro w hSw; (try dsimp only at hSw); go_simp; try with_reducible rfl)
    try go_frame
    refine wpAnyH_ready (rs := [5]) (by kernel_rfl) (by simp) ?_
    refine consL rfl (fun K hK => ?_) AllReadyH.nil
    obtain ⟨v0, c0⟩ := k1.r0
    obtain ⟨v1, c1⟩ := k1.r1
    have f0 := k1.fr 0
    have f1 := k1.fr 1
    go_simp
    have k2 := (k1.store 0 (.slice (some ⟨Z, 0, none⟩) len len) HXY.out HXw.out).store 1 (.int .i64 M) HXY.out HXw.out
    refine hK.out _ _ (HMK.out _ k2) (fun hHeld => ?_)
    clear hK K
    try go_frame
    refine wpAnyH_takeL (i := 6) (v := ?_) rfl (by kernel_rfl) (by kernel_rfl) (by kernel_rfl) (fun _ _ _ h => h) (Or.inl ⟨by rfl, ?_⟩) hHeld ?_
    rotate_left
    · (intro w hSw; (try dsimp only at hSw); go_simp; try with_reducible rfl)
    try go_frame
    refine wpAnyH_done (by kernel_rfl) ?_ _
    go_wp2
    refine bodyPost_ret (v := .tuple #[.agg #[.slice (some ⟨Z, 0, none⟩) len len, .int .i64 M], .bool true]) (by simp [results, Try.results20, go_sem, c0, c1]) rfl ?_
    have hz := of_yes (L := L) (HOB.out.trans hr) (w := w) (g := Z) (n := len) (c := len) (by rw [← HDS.out]; exact (HO6.out.setCell (p := ⟨X, 0, none⟩) (by simp; omega) (.slice (some ⟨Z, 0, none⟩) len len)).setCell (p := ⟨X, 1, none⟩) (by simp; omega) (.int .i64 M)) k2.all
    rw [← HDS.out, ← HM.out] at hz
    exact hz
end Go.Proofs.Ytkdalacclafihaa
