/-
  The program's heads: which of two stretches stands ahead, by a walk of its Go text.
-/
import Derived.Deep.RegionLaw
import Derived.Deep.RegionHeld3
import Derived.Test.YtlmgojlffgkciaaGreatGa13
import Derived.Test.YtlmgojlffgkciaaGreatGa09
import Derived.Test.YtlmgojlffgkciaaGreatGaXMgS
import Derived.Test.YtlmgojlffgkciaaGreatGa01
namespace Go.Proofs.YtlmgojlffgkciaaGreat
open Go.RowKit
set_option maxRecDepth 100000
set_option maxHeartbeats 4000000
theorem headsLess (g n c i j b1 o1 n1 c1 b2 o2 n2 c2 : Nat) (k1 k2 : Int) (s t s' t' : ByteArray) (q d m q' d' m' : Int) (w : World) (hi : i < n) (hj : j < n) (h1 : 0 < n1) (h2 : 0 < n2)
    (x0 : w.cell? ⟨g, i * 2, none⟩ = some (.slice (some ⟨b1, o1, none⟩) n1 c1)) (x1 : w.cell? ⟨g, i * 2 + 1, none⟩ = some (.int .i64 k1))
    (y0 : w.cell? ⟨g, j * 2, none⟩ = some (.slice (some ⟨b2, o2, none⟩) n2 c2)) (y1 : w.cell? ⟨g, j * 2 + 1, none⟩ = some (.int .i64 k2))
    (e0 : w.cell? ⟨b1, o1, none⟩ = some (.string s)) (e1 : w.cell? ⟨b1, o1 + 1, none⟩ = some (.int .i64 q)) (e2 : w.cell? ⟨b1, o1 + 2, none⟩ = some (.int .i64 d)) (e3 : w.cell? ⟨b1, o1 + 3, none⟩ = some (.string t)) (e4 : w.cell? ⟨b1, o1 + 4, none⟩ = some (.int .i64 m))
    (f0 : w.cell? ⟨b2, o2, none⟩ = some (.string s')) (f1 : w.cell? ⟨b2, o2 + 1, none⟩ = some (.int .i64 q')) (f2 : w.cell? ⟨b2, o2 + 2, none⟩ = some (.int .i64 d')) (f3 : w.cell? ⟨b2, o2 + 3, none⟩ = some (.string t')) (f4 : w.cell? ⟨b2, o2 + 4, none⟩ = some (.int .i64 m')) :
    Calls Tryz.prog 257 #[.slice (some ⟨g, 0, none⟩) n c, .int .i64 i, .int .i64 j] w fun e w' => e = .returned (.bool (decide ((if ordI s q s' q' = 0 then Lib.compareInt k1 k2 else ordI s q s' q') < 0))) ∧ Below w.heap.size w w' := by
  have hiI : (i : Int) < (n : Int) := by omega
  have hjI : (j : Int) < (n : Int) := by omega
  have zg := World.block_lt_of_cell? _ _ x0
  have z1 := World.block_lt_of_cell? _ _ e0
  have z2 := World.block_lt_of_cell? _ _ f0
  simp only at zg z1 z2
  obtain ⟨C, hC⟩ : ∃ C, C = ordI s q s' q' := ⟨_, rfl⟩
  obtain ⟨D, hD⟩ : ∃ D, D = Lib.compareInt k1 k2 := ⟨_, rfl⟩
  have c1' : ∀ w, Calls Tryz.prog 145 #[.agg #[.string s, .int .i64 q, .int .i64 d, .string t, .int .i64 m], .agg #[.string s', .int .i64 q', .int .i64 d', .string t', .int .i64 m']] w fun e w' => e = .returned (.int .i64 C) ∧ Below w.heap.size w w' := by rw [hC]; exact implOrder s t s' t' q d m q' d' m'
  have c2' : ∀ w, Calls Tryz.prog 174 #[.int .i64 k1, .int .i64 k2] w fun e w' => e = .returned (.int .i64 D) ∧ w' = w := by rw [hD]; exact intCompare k1 k2
  obtain ⟨O, hO⟩ : ∃ O, O = if C = 0 then D else C := ⟨_, rfl⟩
  have c3' : ∀ b c w, w.cell? ⟨b, 0, none⟩ = some (.int .i64 C) → w.cell? ⟨b, 1, none⟩ = some (.int .i64 D) → Calls Tryz.prog 182 #[.slice (some ⟨b, 0, none⟩) 2 c] w fun e w' => e = .returned (.int .i64 O) ∧ w' = w := by
    rw [hO]
    exact fun b c w g0 g1 => cmpOr C D b c w g0 g1
  rw [← hC, ← hD, ← hO]
  clear hC hD hO
  have k0 : Below w.heap.size w w.drew := (Below.refl _ w).drew
  have HMK : Hid (∀ w', Below w.heap.size w w' → (w'.cell? ⟨g, i * 2, none⟩ = some (.slice (some ⟨b1, o1, none⟩) n1 c1) ∧ w'.cell? ⟨g, i * 2 + 1, none⟩ = some (.int .i64 k1) ∧ w'.cell? ⟨g, j * 2, none⟩ = some (.slice (some ⟨b2, o2, none⟩) n2 c2) ∧ w'.cell? ⟨g, j * 2 + 1, none⟩ = some (.int .i64 k2) ∧ w'.cell? ⟨b1, o1, none⟩ = some (.string s) ∧ w'.cell? ⟨b1, o1 + 1, none⟩ = some (.int .i64 q) ∧ w'.cell? ⟨b1, o1 + 2, none⟩ = some (.int .i64 d) ∧ w'.cell? ⟨b1, o1 + 3, none⟩ = some (.string t) ∧ w'.cell? ⟨b1, o1 + 4, none⟩ = some (.int .i64 m) ∧ w'.cell? ⟨b2, o2, none⟩ = some (.string s') ∧ w'.cell? ⟨b2, o2 + 1, none⟩ = some (.int .i64 q') ∧ w'.cell? ⟨b2, o2 + 2, none⟩ = some (.int .i64 d') ∧ w'.cell? ⟨b2, o2 + 3, none⟩ = some (.string t') ∧ w'.cell? ⟨b2, o2 + 4, none⟩ = some (.int .i64 m') ∧ g < w'.heap.size ∧ b1 < w'.heap.size ∧ b2 < w'.heap.size)) := fun w' k => ⟨cell_later k x0, cell_later k x1, cell_later k y0, cell_later k y1, cell_later k e0, cell_later k e1, cell_later k e2, cell_later k e3, cell_later k e4, cell_later k f0, cell_later k f1, cell_later k f2, cell_later k f3, cell_later k f4, Nat.lt_of_lt_of_le zg k.size, Nat.lt_of_lt_of_le z1 k.size, Nat.lt_of_lt_of_le z2 k.size⟩
  clear x0 x1 y0 y1 e0 e1 e2 e3 e4 f0 f1 f2 f3 f4 zg z1 z2
  go_enter Tryz.func257, Tryz.ntmps257
  go_wp2_with fail
  refine wp_region_held_drew (S := (fun w' => w'.cell? ⟨g, i * 2, none⟩ = some (.slice (some ⟨b1, o1, none⟩) n1 c1) ∧ w'.cell? ⟨g, i * 2 + 1, none⟩ = some (.int .i64 k1) ∧ w'.cell? ⟨g, j * 2, none⟩ = some (.slice (some ⟨b2, o2, none⟩) n2 c2) ∧ w'.cell? ⟨g, j * 2 + 1, none⟩ = some (.int .i64 k2) ∧ w'.cell? ⟨b1, o1, none⟩ = some (.string s) ∧ w'.cell? ⟨b1, o1 + 1, none⟩ = some (.int .i64 q) ∧ w'.cell? ⟨b1, o1 + 2, none⟩ = some (.int .i64 d) ∧ w'.cell? ⟨b1, o1 + 3, none⟩ = some (.string t) ∧ w'.cell? ⟨b1, o1 + 4, none⟩ = some (.int .i64 m) ∧ w'.cell? ⟨b2, o2, none⟩ = some (.string s') ∧ w'.cell? ⟨b2, o2 + 1, none⟩ = some (.int .i64 q') ∧ w'.cell? ⟨b2, o2 + 2, none⟩ = some (.int .i64 d') ∧ w'.cell? ⟨b2, o2 + 3, none⟩ = some (.string t') ∧ w'.cell? ⟨b2, o2 + 4, none⟩ = some (.int .i64 m') ∧ g < w'.heap.size ∧ b1 < w'.heap.size ∧ b2 < w'.heap.size)) (by kernel_rfl) (HMK.out _ k0) (fun hHeld => ?_)
  refine tkL 0 hHeld ?_; try go_frame
  refine tkL 1 hHeld ?_; try go_frame
  refine tkL 2 hHeld ?_; try go_frame
  refine tkL 3 hHeld ?_; try go_frame
  refine tkL 4 hHeld ?_; try go_frame
  refine tkL 5 hHeld ?_; try go_frame
  refine tkL 6 hHeld ?_; try go_frame
  refine tkL 7 hHeld ?_; try go_frame
  refine tkL 8 hHeld ?_; try go_frame
  refine tkL 9 hHeld ?_; try go_frame
  refine tkL 10 hHeld ?_; try go_frame
  refine tkL 11 hHeld ?_; try go_frame
  refine tkL 12 hHeld ?_; try go_frame
  refine tkL 13 hHeld ?_; try go_frame
  refine tkL 15 hHeld ?_; try go_frame
  refine tkL 16 hHeld ?_; try go_frame
  refine tkL 17 hHeld ?_; try go_frame
  refine tkL 18 hHeld ?_; try go_frame
  refine tkL 19 hHeld ?_; try go_frame
  refine tkL 20 hHeld ?_; try go_frame
  refine tkL 21 hHeld ?_; try go_frame
  refine tkL 22 hHeld ?_; try go_frame
  refine tkL 23 hHeld ?_; try go_frame
  refine tkL 24 hHeld ?_; try go_frame
  refine wpAnyH_ready (rs := [14]) (by kernel_rfl) (by simp) ?_
  refine consL rfl (fun K hK => ?_) AllReadyH.nil
  go_simp
  refine (c1' _).mono ?_
  rintro e w1 ⟨rfl, b1'⟩
  have kk1 : Below w.heap.size w w1 := k0.trans (b1'.mono k0.size)
  go_wp2_with fail
  refine hK.out _ _ (HMK.out _ kk1) (fun hHeld => ?_)
  clear hK K
  try go_frame
  refine wpAnyH_ready (rs := [25]) (by kernel_rfl) (by simp) ?_
  refine consL rfl (fun K hK => ?_) AllReadyH.nil
  go_simp
  refine (c2' _).mono ?_
  rintro e w2 ⟨rfl, rfl⟩
  go_wp2_with fail
  refine hK.out _ _ (HMK.out _ kk1) (fun hHeld => ?_)
  clear hK K
  try go_frame
  refine wpAnyH_ready (rs := [26]) (by kernel_rfl) (by simp) ?_
  refine consL rfl (fun K hK => ?_) AllReadyH.nil
  go_simp
  have kk2 := kk1.alloc kk1.size (.cells #[.int .i64 C, .int .i64 D] 3)
  refine hK.out _ _ (HMK.out _ kk2) (fun hHeld => ?_)
  clear hK K
  try go_frame
  refine wpAnyH_ready (rs := [27]) (by kernel_rfl) (by simp) ?_
  refine consL rfl (fun K hK => ?_) AllReadyH.nil
  go_simp
  refine (c3' _ _ _ (by simp) (by simp)).mono ?_
  rintro e w3 ⟨rfl, rfl⟩
  go_wp2_with fail
  refine hK.out _ _ (HMK.out _ kk2) (fun hHeld => ?_)
  clear hK K
  try go_frame
  refine tkL 28 hHeld ?_; try go_frame
  refine tkL 29 hHeld ?_; try go_frame
  refine wpAnyH_done (by kernel_rfl) ?_ _
  clear HMK hHeld
  go_wp2
  go_ret
  exact ⟨rfl, kk2⟩
theorem ord_zero (a b : EntD) : ordI a.1 a.2.1 b.1 b.2.1 = 0 ↔ lessE a b = false ∧ lessE b a = false := by
  constructor
  · intro h
    have h1 : lessE a b = false := by
      unfold lessE
      rw [← order_less, h]
      rfl
    refine ⟨h1, ?_⟩
    unfold ordI at h
    rcases cmp_cases a.1.data.toList b.1.data.toList with ⟨e, _, _⟩ | ⟨e, _, e2⟩ | ⟨e, _, _⟩
    · rw [e] at h; simp at h
    · rw [e] at h
      simp only [if_true] at h
      have hk : a.1 = b.1 := ByteArray.ext (Array.toList_inj.1 e2)
      have hq : a.2.1 = b.2.1 := by
        unfold Lib.compareInt at h
        by_cases g : b.2.1 < a.2.1
        · simp [g] at h
        · by_cases g' : b.2.1 > a.2.1
          · simp [g, g'] at h
          · omega
      unfold lessE
      rw [hk, hq]
      exact lessB_self _ _
    · rw [e] at h; simp at h
  · rintro ⟨h1, h2⟩
    obtain ⟨hk, hq⟩ := less_same h1 h2
    unfold ordI
    rw [hk, hq]
    rcases cmp_cases b.1.data.toList b.1.data.toList with ⟨_, _, e⟩ | ⟨e, _, _⟩ | ⟨_, _, e⟩
    · exact absurd rfl e
    · rw [e]; simp [Lib.compareInt]
    · exact absurd rfl e
theorem head_less (a b : EntD) (l r : List EntD) (i j : Nat) : decide ((if ordI a.1 a.2.1 b.1 b.2.1 = 0 then Lib.compareInt i j else ordI a.1 a.2.1 b.1 b.2.1) < 0) = Mg.lessS lessE (a :: l, i) (b :: r, j) := by
  unfold Mg.lessS
  simp only
  by_cases h : ordI a.1 a.2.1 b.1 b.2.1 = 0
  · obtain ⟨h1, h2⟩ := (ord_zero a b).1 h
    rw [if_pos h, h1, h2]
    simp only [Bool.false_or, Bool.not_false, Bool.true_and]
    rw [decide_eq_decide]
    unfold Lib.compareInt
    by_cases g : (i : Int) < (j : Int)
    · simp [g]; omega
    · by_cases g' : (i : Int) > (j : Int)
      · simp [g, g']; omega
      · simp [g, g']; omega
  · rw [if_neg h, order_less]
    show lessE a b = _
    cases h1 : lessE a b with
    | true => rfl
    | false =>
      cases h2 : lessE b a with
      | true => rfl
      | false => exact absurd ((ord_zero a b).2 ⟨h1, h2⟩) h
end Go.Proofs.YtlmgojlffgkciaaGreat
