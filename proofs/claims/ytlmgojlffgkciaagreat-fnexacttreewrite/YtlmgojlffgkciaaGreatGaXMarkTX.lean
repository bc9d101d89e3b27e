/-
  Marking a tree, with the number it ends at.
-/
import Derived.Test.YtlmgojlffgkciaaGreatGa07
namespace Go.Proofs.YtlmgojlffgkciaaGreat
open Go.RowKit
set_option maxRecDepth 100000
set_option maxHeartbeats 2000000
theorem markTree_num (q : Int) (lo hi b1 nm b2 nv b3 ns k : Nat) (V : List (List RunD)) (w : World) (hB : TreeBl lo hi w b1 nm b2 V b3 ns) (hV : V.length = nv) (h1 : nm ≤ 1048576) (h2 : SmallV V) (h3 : ns ≤ 1048576) (hhi : hi ≤ w.heap.size) (hk : 1 ≤ k) (hn : k + 5 * nm + mkV V + ns ≤ 1000000000) :
    Calls Tryz.prog 15 #[.agg #[.int .i64 q, .slice (some ⟨b1, 0, none⟩) nm nm, .slice (some ⟨b2, 0, none⟩) nv nv, .slice (some ⟨b3, 0, none⟩) ns ns], .int .i64 k] w fun e w' => (∃ r : Nat, r = k + 5 * nm + mkV V + ns ∧ e = .returned (.int .i64 (r : Int))) ∧ MarkT lo hi w w' := by
  obtain ⟨Y, hY⟩ : ∃ Y, Y = w.heap.size := ⟨_, rfl⟩
  obtain ⟨W, hW⟩ : ∃ W, W = w.alloc (.cells #[.int .i64 q, .slice (some ⟨b1, 0, none⟩) nm nm, .slice (some ⟨b2, 0, none⟩) nv nv, .slice (some ⟨b3, 0, none⟩) ns ns] 31) := ⟨_, rfl⟩
  have kW : Below w.heap.size w W := by rw [hW]; exact (Below.refl _ _).alloc (Nat.le_refl _) _
  have x2 : W.cell? ⟨Y, 2, none⟩ = some (.slice (some ⟨b2, 0, none⟩) nv nv) := by rw [hW, hY]; simp
  have x3 : W.cell? ⟨Y, 3, none⟩ = some (.slice (some ⟨b3, 0, none⟩) ns ns) := by rw [hW, hY]; simp
  have M0 : Hid (MarkT lo hi w W) := MarkT.of_below kW
  have HB : Hid (TreeBl lo hi w b1 nm b2 V b3 ns) := hB
  have HV : Hid (V.length = nv) := hV
  have H2 : Hid (SmallV V) := h2
  have hnv : nv ≤ 1048576 := by have := h2.1; omega
  have HYH : Hid (hi ≤ Y) := by rw [hY]; exact hhi
  have HN : Hid (k + 5 * nm + mkV V + ns ≤ 1000000000) := hn
  have hn1 : k + 5 * nm ≤ 1000000000 := by omega
  obtain ⟨K2, hK2⟩ : ∃ K2 : Nat, K2 = k + 5 * nm + mkV V := ⟨_, rfl⟩
  have hn2 : K2 + ns ≤ 1000000000 := by omega
  have HK2 : Hid (K2 = k + 5 * nm + mkV V) := hK2
  have CL : Hid (∀ w', LevsBl lo hi w' b2 V → Calls Tryz.prog 46 #[.slice (some ⟨b2, 0, none⟩) nv nv, .int .i64 ((k + 5 * nm : Nat) : Int)] w' fun e w'' => e = .returned (.int .i64 (K2 : Int)) ∧ MarkT lo hi w' w'') := by
    rw [hK2]
    exact fun w' h => markLevs_bl lo hi b2 nv (k + 5 * nm) V w' h hV hnv h2.2 (by omega) (by omega)
  clear hB kW h2 hV hhi hn hK2
  go_enter Tryz.func15, Tryz.ntmps15
  go_wp2_with fail
  rw [← hW]
  try rw [← hY]
  clear hW hY
  refine (markEnts_bl lo hi b1 nm k _ (HB.out.mark M0.out).mem h1 hk hn1).mono ?_
  rintro e w1 ⟨rfl, hM1⟩
  have x2 := hM1.cell (.inr HYH.out) x2
  have x3 := hM1.cell (.inr HYH.out) x3
  have M1 : Hid (MarkT lo hi w w1) := M0.out.trans hM1
  have z1 := World.block_lt_of_cell? _ _ x2
  simp only at z1
  obtain ⟨K1, hK1⟩ : ∃ K1 : Nat, K1 = k + 5 * nm := ⟨_, rfl⟩
  rw [← hK1] at CL ⊢
  clear hM1 hK1
  go_wp2_with fail
  refine (CL.out _ (HB.out.mark M1.out).levs).mono ?_
  rintro e w2 ⟨rfl, hM2⟩
  have x3 := hM2.cell (.inr HYH.out) x3
  have M2 : Hid (MarkT lo hi w w2) := M1.out.trans hM2
  have z1 := World.block_lt_of_cell? _ _ x3
  simp only at z1
  clear hM2 x2
  go_wp2_with fail
  have hs := (HB.out.mark M2.out).sn
  refine (markInts_bl lo hi b3 ns K2 _ hs.1 hs.2.1 hs.2.2 hn2).mono ?_
  rintro e w3 ⟨rfl, hM3⟩
  have M3 : Hid (MarkT lo hi w w3) := M2.out.trans hM3
  clear hM3 hs x3
  obtain ⟨K3, hK3⟩ : ∃ K3 : Nat, K3 = K2 + ns := ⟨_, rfl⟩
  have HK3 : Hid (K3 = K2 + ns) := hK3
  rw [← hK3]
  clear hK3
  go_wp2
  go_ret
  exact ⟨⟨K3, by rw [HK3.out, HK2.out], rfl⟩, M3.out⟩
end Go.Proofs.YtlmgojlffgkciaaGreat
