/-
  The walk of the law FnRunBent: it answers true at all bytes: a right run that is bent is refused, and is another one.
-/
import Derived.Test.YtnopbjhlnjbodaaDrawSame
import Derived.Test.YtnopbjhlnjbodaaRunOk
import Derived.Test.YtnopbjhlnjbodaaRunSame
import Derived.Test.YtnopbjhlnjbodaaRunP
namespace Go.Proofs.Ytnopbjhlnjbodaa
open Go.RowKit

theorem ents_nil (w : World) : EntsAt w none 0 0 [] := ⟨rfl, Nat.le_refl _, Nat.zero_le _, by simp, fun _ => rfl, (fun x e => by cases e), (fun x e => by cases e)⟩
theorem cell_far {w : World} {b o b' o' : Nat} (x : Value) (h : b ≠ b') : (w.setCell ⟨b', o', none⟩ x).cell? ⟨b, o, none⟩ = w.cell? ⟨b, o, none⟩ := World.cell?_setCell_other _ _ _ _ (fun e => h (by cases e; rfl))
theorem runSameB_self (m : Int) (L : List EntD) : runSameB m L m L = true := by simp [runSameB]
theorem runSameB_comm (m m' : Int) (L L' : List EntD) : runSameB m L m' L' = runSameB m' L' m L := by
  unfold runSameB
  rw [Bool.eq_iff_iff]
  simp
  constructor <;> (rintro ⟨rfl, rfl⟩; exact ⟨rfl, rfl⟩)
theorem bent_mask {L : List EntD} {m : Int} (h : runB L m = true) : runB L (m + 65536) = false := by
  obtain ⟨h1, h2, h3, h4⟩ := runB_parts h
  rw [runB_mask h1 h2 h3]
  exact decide_eq_false (by omega)
theorem bent_more {L : List EntD} {m : Int} {e : EntD} (h : runB L m = true) (he : L[0]? = some e) : runB (L ++ [e]) m = false := by
  obtain ⟨h1, h2, h3, h4⟩ := runB_parts h
  cases hr : rightB (L ++ [e]) with
  | false => exact runB_right hr
  | true =>
    have a0 : (L ++ [e])[0]? = some e := by rw [List.getElem?_append_left (by omega)]; exact he
    have a1 : (L ++ [e])[L.length]? = some e := by rw [List.getElem?_append_right (Nat.le_refl _)]; simp
    have := right_less hr (i := 0) (j := L.length) (by omega) a0 a1
    rw [lessB_self] at this
    cases this
theorem bent_none (m : Int) : runB [] m = false := runB_few (by simp)
theorem same_mask (m : Int) (L : List EntD) : runSameB m L (m + 65536) L = false := by
  unfold runSameB
  rw [decide_eq_false (by omega)]
  rfl
theorem same_more (m : Int) (L : List EntD) (e : EntD) : runSameB m L m (L ++ [e]) = false := by
  unfold runSameB
  rw [decide_eq_false (p := L = L ++ [e]) (fun h => by have := congrArg List.length h; simp at this)]
  simp
theorem own_one (w : World) (base : Nat) (h : base ≤ w.heap.size) (s t : ByteArray) (q d n : Int) (hw : EntW (s, q, d, t, n)) : OwnE (w.alloc (.cells #[.string s, .int .i64 q, .int .i64 d, .string t, .int .i64 n] 32)) base w.heap.size 1 1 [(s, q, d, t, n)] := by
  have := World.ownsRow_lit (base := base) (e := 32) (size := 5) w #[.string s, .int .i64 q, .int .i64 d, .string t, .int .i64 n] 1 h (by unfold maxLen; omega) rfl
  exact ⟨by simpa [flatE, entCells] using this, rfl, by simpa using hw⟩

set_option maxRecDepth 100000 in
set_option maxHeartbeats 4000000 in
theorem walkFnRunBent (a : Option Addr) (len cap : Nat) (w : World) (h : BytesAt w a len cap) :
    Calls Try.prog 3 #[.slice a len cap] w fun e w' => e = .returned (.bool true) ∧ Below w.heap.size w w' := by
  have H : Hid (BytesAt w a len cap) := h
  have hm := Nat.le_trans h.1 h.2.1
  unfold maxLen at hm
  clear h
  by_cases hbig : 1048576 < len
  · go_enter Try.func3, Try.ntmps3
    go_wp2
    go_ret
    exact ⟨rfl, Below.refl _ _⟩
  go_enter Try.func3, Try.ntmps3
  go_wp2_with fail
  refine (drawSame_any a len cap w H.out).mono ?_
  rintro e w1 ⟨g1, n1, c1, g2, c2, m1, m2, L1, L2, rfl, hO1, hO2, _, _, _, _, _, hb1⟩
  obtain ⟨X3, hX3⟩ : ∃ X3, X3 = w1.heap.size := ⟨_, rfl⟩
  obtain ⟨X4, hX4⟩ : ∃ X4, X4 = w1.heap.size + 1 := ⟨_, rfl⟩
  obtain ⟨W1, hW1⟩ : ∃ W1, W1 = (w1.alloc (.cells #[.slice (some ⟨g1, 0, none⟩) n1 c1, .int .i64 m1] 25)).alloc (.cells #[.slice (some ⟨g2, 0, none⟩) n1 c2, .int .i64 m2] 25) := ⟨_, rfl⟩
  have kW1 : Below w1.heap.size w1 W1 := by rw [hW1]; exact ((Below.refl _ _).alloc (Nat.le_refl _) _).alloc (by simp) _
  have x0 : W1.cell? ⟨X3, 0, none⟩ = some (.slice (some ⟨g1, 0, none⟩) n1 c1) := by rw [hW1, hX3]; simp
  have x1 : W1.cell? ⟨X3, 1, none⟩ = some (.int .i64 m1) := by rw [hW1, hX3]; simp
  have u0 : W1.cell? ⟨X4, 0, none⟩ = some (.slice (some ⟨g2, 0, none⟩) n1 c2) := by rw [hW1, hX4]; simp
  have u1 : W1.cell? ⟨X4, 1, none⟩ = some (.int .i64 m2) := by rw [hW1, hX4]; simp
  have E1 : Hid (EntsAt W1 (some ⟨g1, 0, none⟩) n1 c1 L1) := hO1.entsAt.keep kW1
  have E2 : Hid (EntsAt W1 (some ⟨g2, 0, none⟩) n1 c2 L2) := hO2.entsAt.keep kW1
  have K1 : Hid (Below w.heap.size w W1) := hb1.trans (kW1.mono hb1.size)
  clear hO1 hO2 kW1 hb1
  go_wp2_with fail
  rw [← hX4, ← hX3, ← hW1]
  clear hX3 hX4 hW1
  refine (drawOkR_any a len cap W1 (H.out.keep K1.out)).mono ?_
  rintro e w2 ⟨g, n, c, m, L, rfl, hO, _, _, _, hb2⟩
  obtain ⟨X5, hX5⟩ : ∃ X5, X5 = w2.heap.size := ⟨_, rfl⟩
  obtain ⟨W5, hW5⟩ : ∃ W5, W5 = w2.alloc (.cells #[.slice (some ⟨g, 0, none⟩) n c, .int .i64 m] 25) := ⟨_, rfl⟩
  have kW5 : Below w2.heap.size w2 W5 := by rw [hW5]; exact (Below.refl _ _).alloc (Nat.le_refl _) _
  have k15 : Below W1.heap.size W1 W5 := hb2.trans (kW5.mono hb2.size)
  have x0 := cell_later k15 x0
  have x1 := cell_later k15 x1
  have u0 := cell_later k15 u0
  have u1 := cell_later k15 u1
  have r0 : W5.cell? ⟨X5, 0, none⟩ = some (.slice (some ⟨g, 0, none⟩) n c) := by rw [hW5, hX5]; simp
  have r1 : W5.cell? ⟨X5, 1, none⟩ = some (.int .i64 m) := by rw [hW5, hX5]; simp
  have E1 : Hid (EntsAt W5 (some ⟨g1, 0, none⟩) n1 c1 L1) := E1.out.keep k15
  have E2 : Hid (EntsAt W5 (some ⟨g2, 0, none⟩) n1 c2 L2) := E2.out.keep k15
  have ER : Hid (EntsAt W5 (some ⟨g, 0, none⟩) n c L) := hO.entsAt.keep kW5
  have HEW : Hid (∀ e ∈ L, EntW e) := hO.ents
  have HLN : Hid (L.length = n) := hO.len
  have K5 : Hid (Below w.heap.size w W5) := K1.out.trans (k15.mono K1.out.size)
  clear hO kW5 hb2 k15 K1
  obtain ⟨B, hB⟩ : ∃ B, B = runSameB m1 L1 m2 L2 := ⟨_, rfl⟩
  obtain ⟨O, hOk⟩ : ∃ O, O = runB L m := ⟨_, rfl⟩
  have CI : Hid (∀ w', Below W5.heap.size W5 w' → Calls Try.prog 15 #[.agg #[.slice (some ⟨g1, 0, none⟩) n1 c1, .int .i64 m1], .agg #[.slice (some ⟨g2, 0, none⟩) n1 c2, .int .i64 m2]] w' fun e w'' => e = .returned (.bool B) ∧ Below w'.heap.size w' w'') := by rw [hB]; exact fun w' k => implRunSame _ _ _ _ _ _ _ _ L1 L2 w' (E1.out.keep k) (E2.out.keep k)
  have CS : Hid (∀ w', Below W5.heap.size W5 w' → Calls Try.prog 16 #[.agg #[.slice (some ⟨g1, 0, none⟩) n1 c1, .int .i64 m1], .agg #[.slice (some ⟨g2, 0, none⟩) n1 c2, .int .i64 m2]] w' fun e w'' => e = .returned (.bool B) ∧ Below w'.heap.size w' w'') := by rw [hB]; exact fun w' k => specRunSame _ _ _ _ _ _ _ _ L1 L2 w' (E1.out.keep k) (E2.out.keep k)
  have CR : Hid (∀ w', Below W5.heap.size W5 w' → Calls Try.prog 15 #[.agg #[.slice (some ⟨g2, 0, none⟩) n1 c2, .int .i64 m2], .agg #[.slice (some ⟨g1, 0, none⟩) n1 c1, .int .i64 m1]] w' fun e w'' => e = .returned (.bool B) ∧ Below w'.heap.size w' w'') := by rw [hB, runSameB_comm]; exact fun w' k => implRunSame _ _ _ _ _ _ _ _ L2 L1 w' (E2.out.keep k) (E1.out.keep k)
  have CRR : Hid (∀ w', Below W5.heap.size W5 w' → Calls Try.prog 15 #[.agg #[.slice (some ⟨g, 0, none⟩) n c, .int .i64 m], .agg #[.slice (some ⟨g, 0, none⟩) n c, .int .i64 m]] w' fun e w'' => e = .returned (.bool true) ∧ Below w'.heap.size w' w'') := by
    have := runSameB_self m L
    rw [← this]
    exact fun w' k => implRunSame _ _ _ _ _ _ _ _ L L w' (ER.out.keep k) (ER.out.keep k)
  have COI : Hid (∀ w', Below W5.heap.size W5 w' → Calls Try.prog 17 #[.agg #[.slice (some ⟨g, 0, none⟩) n c, .int .i64 m]] w' fun e w'' => e = .returned (.bool O) ∧ Below w'.heap.size w' w'') := by rw [hOk]; exact fun w' k => implRunOk _ _ _ L m w' (ER.out.keep k)
  have COS : Hid (∀ w', Below W5.heap.size W5 w' → Calls Try.prog 18 #[.agg #[.slice (some ⟨g, 0, none⟩) n c, .int .i64 m]] w' fun e w'' => e = .returned (.bool O) ∧ Below w'.heap.size w' w'') := by rw [hOk]; exact fun w' k => specRunOk _ _ _ L m w' (ER.out.keep k)
  have HOK : Hid (O = runB L m) := hOk
  clear hB hOk
  have k0 : Below W5.heap.size W5 W5.drew := (Below.refl _ W5).drew
  have HMK : Hid (∀ w', Below W5.heap.size W5 w' → (w'.cell? ⟨X3, 0, none⟩ = some (.slice (some ⟨g1, 0, none⟩) n1 c1) ∧ w'.cell? ⟨X3, 1, none⟩ = some (.int .i64 m1) ∧ X3 < w'.heap.size ∧ w'.cell? ⟨X4, 0, none⟩ = some (.slice (some ⟨g2, 0, none⟩) n1 c2) ∧ w'.cell? ⟨X4, 1, none⟩ = some (.int .i64 m2) ∧ X4 < w'.heap.size ∧ w'.cell? ⟨X5, 0, none⟩ = some (.slice (some ⟨g, 0, none⟩) n c) ∧ w'.cell? ⟨X5, 1, none⟩ = some (.int .i64 m) ∧ X5 < w'.heap.size)) := fun w' kk => ⟨cell_later kk x0, cell_later kk x1, World.block_lt_of_cell? _ _ (cell_later kk x0), cell_later kk u0, cell_later kk u1, World.block_lt_of_cell? _ _ (cell_later kk u0), cell_later kk r0, cell_later kk r1, World.block_lt_of_cell? _ _ (cell_later kk r0)⟩
  go_wp2_with fail
  rw [← hW5, ← hX5]
  clear hW5 hX5
  refine wp_region_held_drew (S := (fun w' => w'.cell? ⟨X3, 0, none⟩ = some (.slice (some ⟨g1, 0, none⟩) n1 c1) ∧ w'.cell? ⟨X3, 1, none⟩ = some (.int .i64 m1) ∧ X3 < w'.heap.size ∧ w'.cell? ⟨X4, 0, none⟩ = some (.slice (some ⟨g2, 0, none⟩) n1 c2) ∧ w'.cell? ⟨X4, 1, none⟩ = some (.int .i64 m2) ∧ X4 < w'.heap.size ∧ w'.cell? ⟨X5, 0, none⟩ = some (.slice (some ⟨g, 0, none⟩) n c) ∧ w'.cell? ⟨X5, 1, none⟩ = some (.int .i64 m) ∧ X5 < w'.heap.size)) (by kernel_rfl) (HMK.out _ k0) (fun hHeld => ?_)
  refine wpAnyH_takeL (i := 0) (v := ?_) rfl (by kernel_rfl) (by kernel_rfl) (by kernel_rfl) (fun _ _ _ h => h) (Or.inl ⟨by rfl, ?_⟩) hHeld ?_
  rotate_left
  · (intro w hSw; (try dsimp only at hSw); go_simp; try with_reducible rfl)
  try go_frame
  refine wpAnyH_takeL (i := 1) (v := ?_) rfl (by kernel_rfl) (by kernel_rfl) (by kernel_rfl) (fun _ _ _ h => h) (Or.inl ⟨by rfl, ?_⟩) hHeld ?_
  rotate_left
  · (intro w hSw; (try dsimp only at hSw); go_simp; try with_reducible rfl)
  try go_frame
  refine wpAnyH_takeL (i := 3) (v := ?_) rfl (by kernel_rfl) (by kernel_rfl) (by kernel_rfl) (fun _ _ _ h => h) (Or.inl ⟨by rfl, ?_⟩) hHeld ?_
  rotate_left
  · (intro w hSw; (try dsimp only at hSw); go_simp; try with_reducible rfl)
  try go_frame
  refine wpAnyH_takeL (i := 4) (v := ?_) rfl (by kernel_rfl) (by kernel_rfl) (by kernel_rfl) (fun _ _ _ h => h) (Or.inl ⟨by rfl, ?_⟩) hHeld ?_
  rotate_left
  · (intro w hSw; (try dsimp only at hSw); go_simp; try with_reducible rfl)
  try go_frame
  refine wpAnyH_ready (rs := [2]) (by kernel_rfl) (by simp) ?_
  refine consL rfl (fun K hK => ?_) AllReadyH.nil
  go_simp
  refine (CI.out _ k0).mono ?_
  rintro e wk1 ⟨rfl, bk1⟩
  have k1 : Below W5.heap.size W5 wk1 := k0.trans (bk1.mono k0.size)
  go_wp2_with fail
  refine hK.out _ _ (HMK.out _ k1) (fun hHeld => ?_)
  clear hK K
  try go_frame
  refine wpAnyH_ready (rs := [5]) (by kernel_rfl) (by simp) ?_
  refine consL rfl (fun K hK => ?_) AllReadyH.nil
  go_simp
  refine (CS.out _ k1).mono ?_
  rintro e wk2 ⟨rfl, bk2⟩
  have k2 : Below W5.heap.size W5 wk2 := k1.trans (bk2.mono k1.size)
  go_wp2_with fail
  refine hK.out _ _ (HMK.out _ k2) (fun hHeld => ?_)
  clear hK K
  try go_frame
  refine wpAnyH_takeL (i := 6) (v := ?_) rfl (by kernel_rfl) (by kernel_rfl) (by kernel_rfl) (fun _ _ _ h => h) (Or.inl ⟨by rfl, ?_⟩) hHeld ?_
  rotate_left
  · (intro w hSw; (try dsimp only at hSw); go_simp; try with_reducible rfl)
  try go_frame
  refine wpAnyH_takeL (i := 7) (v := ?_) rfl (by kernel_rfl) (by kernel_rfl) (by kernel_rfl) (fun _ _ _ h => h) (Or.inl ⟨by rfl, ?_⟩) hHeld ?_
  rotate_left
  · (intro w hSw; (try dsimp only at hSw); go_simp; try with_reducible rfl)
  try go_frame
  refine wpAnyH_takeL (i := 8) (v := ?_) rfl (by kernel_rfl) (by kernel_rfl) (by kernel_rfl) (fun _ _ _ h => h) (Or.inl ⟨by rfl, ?_⟩) hHeld ?_
  rotate_left
  · (intro w hSw; (try dsimp only at hSw); go_simp; try with_reducible rfl)
  try go_frame
  refine wpAnyH_takeL (i := 9) (v := ?_) rfl (by kernel_rfl) (by kernel_rfl) (by kernel_rfl) (fun _ _ _ h => h) (Or.inl ⟨by rfl, ?_⟩) hHeld ?_
  rotate_left
  · (intro w hSw; (try dsimp only at hSw); go_simp; try with_reducible rfl)
  try go_frame
  refine wpAnyH_takeL (i := 11) (v := ?_) rfl (by kernel_rfl) (by kernel_rfl) (by kernel_rfl) (fun _ _ _ h => h) (Or.inl ⟨by rfl, ?_⟩) hHeld ?_
  rotate_left
  · (intro w hSw; (try dsimp only at hSw); go_simp; try with_reducible rfl)
  try go_frame
  refine wpAnyH_takeL (i := 12) (v := ?_) rfl (by kernel_rfl) (by kernel_rfl) (by kernel_rfl) (fun _ _ _ h => h) (Or.inl ⟨by rfl, ?_⟩) hHeld ?_
  rotate_left
  · (intro w hSw; (try dsimp only at hSw); go_simp; try with_reducible rfl)
  try go_frame
  refine wpAnyH_ready (rs := [10]) (by kernel_rfl) (by simp) ?_
  refine consL rfl (fun K hK => ?_) AllReadyH.nil
  go_simp
  refine (CI.out _ k2).mono ?_
  rintro e wk3 ⟨rfl, bk3⟩
  have k3 : Below W5.heap.size W5 wk3 := k2.trans (bk3.mono k2.size)
  go_wp2_with fail
  refine hK.out _ _ (HMK.out _ k3) (fun hHeld => ?_)
  clear hK K
  try go_frame
  refine wpAnyH_ready (rs := [13]) (by kernel_rfl) (by simp) ?_
  refine consL rfl (fun K hK => ?_) AllReadyH.nil
  go_simp
  refine (CR.out _ k3).mono ?_
  rintro e wk4 ⟨rfl, bk4⟩
  have k4 : Below W5.heap.size W5 wk4 := k3.trans (bk4.mono k3.size)
  go_wp2_with fail
  refine hK.out _ _ (HMK.out _ k4) (fun hHeld => ?_)
  clear hK K
  try go_frame
  refine wpAnyH_takeL (i := 14) (v := ?_) rfl (by kernel_rfl) (by kernel_rfl) (by kernel_rfl) (fun _ _ _ h => h) (Or.inl ⟨by rfl, ?_⟩) hHeld ?_
  rotate_left
  · (intro w hSw; (try dsimp only at hSw); go_simp; try with_reducible rfl)
  try go_frame
  refine wpAnyH_takeL (i := 15) (v := ?_) rfl (by kernel_rfl) (by kernel_rfl) (by kernel_rfl) (fun _ _ _ h => h) (Or.inl ⟨by rfl, ?_⟩) hHeld ?_
  rotate_left
  · (intro w hSw; (try dsimp only at hSw); go_simp; try with_reducible rfl)
  try go_frame
  refine wpAnyH_takeL (i := 16) (v := ?_) rfl (by kernel_rfl) (by kernel_rfl) (by kernel_rfl) (fun _ _ _ h => h) (Or.inl ⟨by rfl, ?_⟩) hHeld ?_
  rotate_left
  · (intro w hSw; (try dsimp only at hSw); go_simp; try with_reducible rfl)
  try go_frame
  refine wpAnyH_takeL (i := 17) (v := ?_) rfl (by kernel_rfl) (by kernel_rfl) (by kernel_rfl) (fun _ _ _ h => h) (Or.inl ⟨by rfl, ?_⟩) hHeld ?_
  rotate_left
  · (intro w hSw; (try dsimp only at hSw); go_simp; try with_reducible rfl)
  try go_frame
  refine wpAnyH_takeL (i := 18) (v := ?_) rfl (by kernel_rfl) (by kernel_rfl) (by kernel_rfl) (fun _ _ _ h => h) (Or.inl ⟨by rfl, ?_⟩) hHeld ?_
  rotate_left
  · (intro w hSw; (try dsimp only at hSw); go_simp; try with_reducible rfl)
  try go_frame
  refine wpAnyH_ready (rs := [19]) (by kernel_rfl) (by simp) ?_
  refine consL rfl (fun K hK => ?_) AllReadyH.nil
  go_simp
  refine (CRR.out _ k4).mono ?_
  rintro e wk5 ⟨rfl, bk5⟩
  have k5 : Below W5.heap.size W5 wk5 := k4.trans (bk5.mono k4.size)
  go_wp2_with fail
  refine hK.out _ _ (HMK.out _ k5) (fun hHeld => ?_)
  clear hK K
  try go_frame
  refine wpAnyH_takeL (i := 20) (v := ?_) rfl (by kernel_rfl) (by kernel_rfl) (by kernel_rfl) (fun _ _ _ h => h) (Or.inl ⟨by rfl, ?_⟩) hHeld ?_
  rotate_left
  · (intro w hSw; (try dsimp only at hSw); go_simp; try with_reducible rfl)
  try go_frame
  refine wpAnyH_takeL (i := 21) (v := ?_) rfl (by kernel_rfl) (by kernel_rfl) (by kernel_rfl) (fun _ _ _ h => h) (Or.inl ⟨by rfl, ?_⟩) hHeld ?_
  rotate_left
  · (intro w hSw; (try dsimp only at hSw); go_simp; try with_reducible rfl)
  try go_frame
  refine wpAnyH_takeL (i := 22) (v := ?_) rfl (by kernel_rfl) (by kernel_rfl) (by kernel_rfl) (fun _ _ _ h => h) (Or.inl ⟨by rfl, ?_⟩) hHeld ?_
  rotate_left
  · (intro w hSw; (try dsimp only at hSw); go_simp; try with_reducible rfl)
  try go_frame
  refine wpAnyH_takeL (i := 23) (v := ?_) rfl (by kernel_rfl) (by kernel_rfl) (by kernel_rfl) (fun _ _ _ h => h) (Or.inl ⟨by rfl, ?_⟩) hHeld ?_
  rotate_left
  · (intro w hSw; (try dsimp only at hSw); go_simp; try with_reducible rfl)
  try go_frame
  refine wpAnyH_takeL (i := 25) (v := ?_) rfl (by kernel_rfl) (by kernel_rfl) (by kernel_rfl) (fun _ _ _ h => h) (Or.inl ⟨by rfl, ?_⟩) hHeld ?_
  rotate_left
  · (intro w hSw; (try dsimp only at hSw); go_simp; try with_reducible rfl)
  try go_frame
  refine wpAnyH_ready (rs := [24]) (by kernel_rfl) (by simp) ?_
  refine consL rfl (fun K hK => ?_) AllReadyH.nil
  go_simp
  refine (COI.out _ k5).mono ?_
  rintro e wk6 ⟨rfl, bk6⟩
  have k6 : Below W5.heap.size W5 wk6 := k5.trans (bk6.mono k5.size)
  go_wp2_with fail
  refine hK.out _ _ (HMK.out _ k6) (fun hHeld => ?_)
  clear hK K
  try go_frame
  refine wpAnyH_ready (rs := [26]) (by kernel_rfl) (by simp) ?_
  refine consL rfl (fun K hK => ?_) AllReadyH.nil
  go_simp
  refine (COS.out _ k6).mono ?_
  rintro e wk7 ⟨rfl, bk7⟩
  have k7 : Below W5.heap.size W5 wk7 := k6.trans (bk7.mono k6.size)
  go_wp2_with fail
  refine hK.out _ _ (HMK.out _ k7) (fun hHeld => ?_)
  clear hK K
  try go_frame
  refine wpAnyH_takeL (i := 27) (v := ?_) rfl (by kernel_rfl) (by kernel_rfl) (by kernel_rfl) (fun _ _ _ h => h) (Or.inl ⟨by rfl, ?_⟩) hHeld ?_
  rotate_left
  · (intro w hSw; (try dsimp only at hSw); go_simp; try with_reducible rfl)
  try go_frame
  refine wpAnyH_takeL (i := 28) (v := ?_) rfl (by kernel_rfl) (by kernel_rfl) (by kernel_rfl) (fun _ _ _ h => h) (Or.inl ⟨by rfl, ?_⟩) hHeld ?_
  rotate_left
  · (intro w hSw; (try dsimp only at hSw); go_simp; try with_reducible rfl)
  try go_frame
  refine wpAnyH_done (by kernel_rfl) ?_ _
  have r0 := cell_later k7 r0
  have r1 := cell_later k7 r1
  have zr := World.block_lt_of_cell? _ _ r0
  simp only at zr
  have K7 : Hid (Below W5.heap.size W5 wk7) := k7
  clear k0 k1 k2 k3 k4 k5 k6 k7 bk1 bk2 bk3 bk4 bk5 bk6 bk7 HMK hHeld x0 x1 u0 u1 CI CS CR CRR COI
  go_wp2_with fail
  refine (COS.out _ K7.out).mono ?_
  rintro e w6 ⟨rfl, hb6⟩
  have K6 : Hid (Below W5.heap.size W5 w6) := K7.out.trans (hb6.mono K7.out.size)
  have r0 := cell_later hb6 r0
  have r1 := cell_later hb6 r1
  have zr := World.block_lt_of_cell? _ _ r0
  simp only at zr
  clear hb6 K7
  cases hO : O with
  | false =>
    go_wp2
    go_ret
    exact ⟨rfl, K5.out.trans (K6.out.mono K5.out.size)⟩
  | true =>
    have HR : Hid (runB L m = true) := by rw [← HOK.out]; exact hO
    obtain ⟨h1, h2, h3, h4⟩ := runB_parts HR.out
    have hm0 : 0 ≤ m := by omega
    have hm1 : m < 65536 := by have := maskL_lt L; omega
    have hn1 : 1 ≤ n := by rw [← HLN.out]; exact h1
    have hn2 : n ≤ 150 := by rw [← HLN.out]; exact h2
    have hnp : 0 < n := hn1
    have hnI : (0 : Int) < (n : Int) := by omega
    clear h1 h2 h3 h4 hO HOK
    have ER6 : Hid (EntsAt w6 (some ⟨g, 0, none⟩) n c L) := ER.out.keep K6.out
    have KK : Hid (Below w.heap.size w w6) := K5.out.trans (K6.out.mono K5.out.size)
    clear ER K6 K5 E1 E2 COS
    obtain ⟨X6, hX6⟩ : ∃ X6, X6 = w6.heap.size := ⟨_, rfl⟩
    obtain ⟨X7, hX7⟩ : ∃ X7, X7 = w6.heap.size + 1 := ⟨_, rfl⟩
    obtain ⟨W7, hW7⟩ : ∃ W7, W7 = (w6.alloc (.cells #[.slice (some ⟨g, 0, none⟩) n c, .int .i64 (m + 65536)] 25)).alloc (.cells #[.slice (some ⟨g, 0, none⟩) n c, .int .i64 m] 25) := ⟨_, rfl⟩
    have kW7 : Below w6.heap.size w6 W7 := by rw [hW7]; exact ((Below.refl _ _).alloc (Nat.le_refl _) _).alloc (by simp) _
    have p0 : W7.cell? ⟨X6, 0, none⟩ = some (.slice (some ⟨g, 0, none⟩) n c) := by rw [hW7, hX6]; simp
    have p1 : W7.cell? ⟨X6, 1, none⟩ = some (.int .i64 (m + 65536)) := by rw [hW7, hX6]; simp
    have q0 : W7.cell? ⟨X7, 0, none⟩ = some (.slice (some ⟨g, 0, none⟩) n c) := by rw [hW7, hX7]; simp
    have q1 : W7.cell? ⟨X7, 1, none⟩ = some (.int .i64 m) := by rw [hW7, hX7]; simp
    have qf : ∀ o, W7.frozen? ⟨X7, o, none⟩ = false := fun o => by rw [hW7, hX7]; simp
    have d0 := cell_later kW7 r0
    have d1 := cell_later kW7 r1
    have n67 : X6 ≠ X7 := by omega
    have n57 : X5 ≠ X7 := by omega
    have ng7 : g ≠ X7 := by have := (ER6.out.lies _ rfl (by omega)).1; simp only at this; omega
    have w7 : w.heap.size ≤ X7 := by have := KK.out.size; omega
    have ER7 : Hid (EntsAt W7 (some ⟨g, 0, none⟩) n c L) := ER6.out.keep kW7
    have K7 : Hid (Below w.heap.size w W7) := KK.out.trans (kW7.mono KK.out.size)
    obtain ⟨s, q, d, t, nn, hg, hw0, e0, e1, e2, e3, e4⟩ := ER7.out.ent (Below.refl _ W7) (ER7.out.lies _ rfl (by omega)).1 0 (by omega)
    simp only [Nat.zero_add, Nat.zero_mul] at e0 e1 e2 e3 e4
    have HG : Hid (L[0]? = some (s, q, d, t, nn)) := hg
    have HW0 : Hid (EntW (s, q, d, t, nn)) := hw0
    have N67 : Hid (X6 ≠ X7) := n67
    have N57 : Hid (X5 ≠ X7) := n57
    have NG7 : Hid (g ≠ X7) := ng7
    go_wp2_with fail
    rw [← hX7, ← hX6, ← hW7]
    clear hX6 hX7 hW7 kW7 r0 r1 zr ER6 KK hg hw0 n67 n57 ng7
    obtain ⟨i0, hi, hz0, hz1, hz2⟩ := info_parts Try.infoEnt
    have k0 : Below W7.heap.size W7 W7.drew := (Below.refl _ W7).drew
    have HMK : Hid (∀ w', Below W7.heap.size W7 w' → (w'.cell? ⟨X5, 0, none⟩ = some (.slice (some ⟨g, 0, none⟩) n c) ∧ X5 < w'.heap.size ∧ w'.cell? ⟨g, 0, none⟩ = some (.string s) ∧ w'.cell? ⟨g, 1, none⟩ = some (.int .i64 q) ∧ w'.cell? ⟨g, 2, none⟩ = some (.int .i64 d) ∧ w'.cell? ⟨g, 3, none⟩ = some (.string t) ∧ w'.cell? ⟨g, 4, none⟩ = some (.int .i64 nn) ∧ g < w'.heap.size ∧ X7 < w'.heap.size)) := fun w' kk => ⟨cell_later kk d0, World.block_lt_of_cell? _ _ (cell_later kk d0), cell_later kk e0, cell_later kk e1, cell_later kk e2, cell_later kk e3, cell_later kk e4, World.block_lt_of_cell? _ _ (cell_later kk e0), World.block_lt_of_cell? _ _ (cell_later kk q0)⟩
    have HMS : Hid (∀ w' v, Below W7.heap.size W7 w' → ((w'.setCell ⟨X7, 0, none⟩ v).cell? ⟨X5, 0, none⟩ = some (.slice (some ⟨g, 0, none⟩) n c) ∧ X5 < (w'.setCell ⟨X7, 0, none⟩ v).heap.size ∧ (w'.setCell ⟨X7, 0, none⟩ v).cell? ⟨g, 0, none⟩ = some (.string s) ∧ (w'.setCell ⟨X7, 0, none⟩ v).cell? ⟨g, 1, none⟩ = some (.int .i64 q) ∧ (w'.setCell ⟨X7, 0, none⟩ v).cell? ⟨g, 2, none⟩ = some (.int .i64 d) ∧ (w'.setCell ⟨X7, 0, none⟩ v).cell? ⟨g, 3, none⟩ = some (.string t) ∧ (w'.setCell ⟨X7, 0, none⟩ v).cell? ⟨g, 4, none⟩ = some (.int .i64 nn) ∧ g < (w'.setCell ⟨X7, 0, none⟩ v).heap.size ∧ X7 < (w'.setCell ⟨X7, 0, none⟩ v).heap.size)) := fun w' v kk => by
      have h5 := N57.out
      have h6 := NG7.out
      obtain ⟨z0, z1, z2, z3, z4, z5, z6, z7, z8⟩ := HMK.out w' kk
      refine ⟨(cell_far v h5).trans z0, by simpa [World.setCell] using z1, (cell_far v h6).trans z2, (cell_far v h6).trans z3, (cell_far v h6).trans z4, (cell_far v h6).trans z5, (cell_far v h6).trans z6, by simpa [World.setCell] using z7, by simpa [World.setCell] using z8⟩
    refine wp_region_held_drew (S := (fun w' => w'.cell? ⟨X5, 0, none⟩ = some (.slice (some ⟨g, 0, none⟩) n c) ∧ X5 < w'.heap.size ∧ w'.cell? ⟨g, 0, none⟩ = some (.string s) ∧ w'.cell? ⟨g, 1, none⟩ = some (.int .i64 q) ∧ w'.cell? ⟨g, 2, none⟩ = some (.int .i64 d) ∧ w'.cell? ⟨g, 3, none⟩ = some (.string t) ∧ w'.cell? ⟨g, 4, none⟩ = some (.int .i64 nn) ∧ g < w'.heap.size ∧ X7 < w'.heap.size)) (by kernel_rfl) (HMK.out _ k0) (fun hHeld => ?_)
    generalize W7.drew = wd at k0 hHeld ⊢
    refine wpAnyH_takeL (i := 1) (v := ?_) rfl (by kernel_rfl) (by kernel_rfl) (by kernel_rfl) (fun _ _ _ h => h) (Or.inl ⟨by rfl, ?_⟩) hHeld ?_
    rotate_left
    · (intro w hSw; (try dsimp only at hSw); go_simp; try with_reducible rfl)
    try go_frame
    refine wpAnyH_takeL (i := 2) (v := ?_) rfl (by kernel_rfl) (by kernel_rfl) (by kernel_rfl) (fun _ _ _ h => h) (Or.inl ⟨by rfl, ?_⟩) hHeld ?_
    rotate_left
    · (intro w hSw; (try dsimp only at hSw); go_simp; try with_reducible rfl)
    try go_frame
    refine wpAnyH_takeL (i := 4) (v := ?_) rfl (by kernel_rfl) (by kernel_rfl) (by kernel_rfl) (fun _ _ _ h => h) (Or.inl ⟨by rfl, ?_⟩) hHeld ?_
    rotate_left
    · (intro w hSw; (try dsimp only at hSw); go_simp; try with_reducible rfl)
    try go_frame
    refine wpAnyH_takeL (i := 5) (v := ?_) rfl (by kernel_rfl) (by kernel_rfl) (by kernel_rfl) (fun _ _ _ h => h) (Or.inl ⟨by rfl, ?_⟩) hHeld ?_
    rotate_left
    · (intro w hSw; (try dsimp only at hSw); go_simp; try with_reducible rfl)
    try go_frame
    refine wpAnyH_takeL (i := 6) (v := ?_) rfl (by kernel_rfl) (by kernel_rfl) (by kernel_rfl) (fun _ _ _ h => h) (Or.inl ⟨by rfl, ?_⟩) hHeld ?_
    rotate_left
    · (intro w hSw; (try dsimp only at hSw); go_simp; try with_reducible rfl)
    try go_frame
    refine wpAnyH_takeL (i := 7) (v := ?_) rfl (by kernel_rfl) (by kernel_rfl) (by kernel_rfl) (fun _ _ _ h => h) (Or.inl ⟨by rfl, ?_⟩) hHeld ?_
    rotate_left
    · (intro w hSw; (try dsimp only at hSw); go_simp; try with_reducible rfl)
    try go_frame
    refine wpAnyH_ready (rs := [0, 8]) (by kernel_rfl) (by simp) ?_
    refine consL rfl (fun K hK => ?_) (consL rfl (fun K hK => ?_) AllReadyH.nil)
    · go_simp
      have k0a := k0.alloc k0.size (.cells #[] 32)
      have rA : OwnE (wd.alloc (.cells #[] 32)) W7.heap.size wd.heap.size 0 0 [] := own_empty wd _ k0.size
      refine hK.out _ _ (HMK.out _ k0a) (fun hHeld => ?_)
      clear hK K
      try go_frame
      refine wpAnyH_ready (rs := [3, 8]) (by kernel_rfl) (by simp) ?_
      refine consL rfl (fun K hK => ?_) (consL rfl (fun K hK => ?_) AllReadyH.nil)
      · refine step_append_own rfl (.tmp 57) (.tmp 59) 23 rfl W7.heap.size 32 i0 _ 5 56 Try.underlying23 hi hz0 hz1 hz2 rfl (Nat.succ_pos 4) _ _ _ rfl rA.owns ⟨g, 0, none⟩ n c (flatE L) rfl ?e0 ?e1 (flatE_one _) ?e3 ?e4 ?e5 ?_
        case e0 => rw [flatE_len]; first | (rw [HLN.out]) | simp
        case e1 => exact ents_news (ER7.out.keep k0a)
        case e3 => unfold maxLen; omega
        case e4 => omega
        case e5 => exact k0a.size
        intro v' wB hown hgrow hnil
        rw [Nat.zero_add] at hown
        obtain ⟨gB, cB, rfl⟩ := row_form hown (fun e => by have := (hnil.1 e).2; omega)
        have rB : OwnE wB W7.heap.size gB n cB L := ⟨by simpa [flatE] using hown, HLN.out, HEW.out⟩
        have kB : Below W7.heap.size W7 wB := k0a.grown hgrow k0a.size (fun j e => by rw [own_G e]; exact rA.lt.1)
        refine hK.out _ _ (HMK.out _ kB) (fun hHeld => ?_)
        clear hK K
        try go_frame
        refine wpAnyH_ready (rs := [8]) (by kernel_rfl) (by simp) ?_
        refine consL rfl (fun K hK => ?_) AllReadyH.nil
        go_simp
        have kBn := kB.alloc kB.size (.cells #[.string s, .int .i64 q, .int .i64 d, .string t, .int .i64 nn] 32)
        have rN : OwnE (wB.alloc (.cells #[.string s, .int .i64 q, .int .i64 d, .string t, .int .i64 nn] 32)) W7.heap.size wB.heap.size 1 1 [(s, q, d, t, nn)] := own_one wB _ kB.size s t q d nn HW0.out
        have rB := rB.below ((Below.refl wB.heap.size wB).alloc (Nat.le_refl _) (.cells #[.string s, .int .i64 q, .int .i64 d, .string t, .int .i64 nn] 32))
        refine hK.out _ _ (HMK.out _ kBn) (fun hHeld => ?_)
        clear hK K
        try go_frame
        refine wpAnyH_ready (rs := [9]) (by kernel_rfl) (by simp) ?_
        refine consL rfl (fun K hK => ?_) AllReadyH.nil
        refine step_append_own rfl (.tmp 60) (.tmp 65) 23 rfl W7.heap.size 32 i0 _ 5 56 Try.underlying23 hi hz0 hz1 hz2 rfl (Nat.succ_pos 4) _ _ _ rfl rB.owns ⟨wB.heap.size, 0, none⟩ 1 1 (flatE [(s, q, d, t, nn)]) rfl ?e0 ?e1 (flatE_one _) ?e3 ?e4 ?e5 ?_
        case e0 => rw [flatE_len]; first | (rw [HLN.out]) | simp
        case e1 => exact ents_news rN.entsAt
        case e3 => unfold maxLen; omega
        case e4 => omega
        case e5 => exact kBn.size
        intro v' wC hown2 hgrow2 hnil2
        obtain ⟨gC, cC, rfl⟩ := row_form hown2 (fun e => by have := (hnil2.1 e).2; omega)
        have rC : OwnE wC W7.heap.size gC (n + 1) cC (L ++ [(s, q, d, t, nn)]) := ⟨by rw [flatE_append]; exact hown2, by simp [HLN.out], fun e he => by rcases List.mem_append.1 he with h | h; exact HEW.out e h; simp at h; subst h; exact HW0.out⟩
        have kC : Below W7.heap.size W7 wC := kBn.grown hgrow2 kBn.size (fun j e => by rw [own_G e]; exact rB.lt.1)
        refine hK.out _ _ (HMK.out _ kC) (fun hHeld => ?_)
        clear hK K
        try go_frame
        refine wpAnyH_takeL (i := 10) (v := ?_) rfl (by kernel_rfl) (by kernel_rfl) (by kernel_rfl) (fun _ _ _ h => h) (Or.inl ⟨by rfl, ?_⟩) hHeld ?_
        rotate_left
        · (intro w hSw; (try dsimp only at hSw); go_simp; try with_reducible rfl)
        try go_frame
        refine wpAnyH_ready (rs := [11]) (by kernel_rfl) (by simp) ?_
        refine consL rfl (fun K hK => ?_) AllReadyH.nil
        have s0 := cell_later kC q0
        have sf := (kC.frozen (p := ⟨X7, 0, none⟩) (World.block_lt_of_cell? _ _ q0)).trans (qf 0)
        go_simp
        refine hK.out _ _ (HMS.out _ _ kC) (fun hHeld => ?_)
        clear hK K
        try go_frame
        refine wpAnyH_done (by kernel_rfl) ?_ _
        obtain ⟨W8, hW8⟩ : ∃ W8, W8 = wC.setCell ⟨X7, 0, none⟩ (.slice (some ⟨gC, 0, none⟩) (n + 1) cC) := ⟨_, rfl⟩
        rw [← hW8]
        have gC7 : gC ≠ X7 := by have := rC.lt.1; have := World.block_lt_of_cell? _ _ q0; simp only at this; omega
        have d0 : W8.cell? ⟨X5, 0, none⟩ = some (.slice (some ⟨g, 0, none⟩) n c) := by rw [hW8]; exact (cell_far _ N57.out).trans (cell_later kC d0)
        have d1 : W8.cell? ⟨X5, 1, none⟩ = some (.int .i64 m) := by rw [hW8]; exact (cell_far _ N57.out).trans (cell_later kC d1)
        have p0 : W8.cell? ⟨X6, 0, none⟩ = some (.slice (some ⟨g, 0, none⟩) n c) := by rw [hW8]; exact (cell_far _ N67.out).trans (cell_later kC p0)
        have p1 : W8.cell? ⟨X6, 1, none⟩ = some (.int .i64 (m + 65536)) := by rw [hW8]; exact (cell_far _ N67.out).trans (cell_later kC p1)
        have y0 : W8.cell? ⟨X7, 0, none⟩ = some (.slice (some ⟨gC, 0, none⟩) (n + 1) cC) := by rw [hW8]; exact World.cell?_setCell_same' _ _ _ (by rw [cell_later kC q0]; rfl)
        have y1 : W8.cell? ⟨X7, 1, none⟩ = some (.int .i64 m) := by rw [hW8]; exact (World.cell?_setCell_other _ _ _ _ (by simp)).trans (cell_later kC q1)
        have E8 : Hid (EntsAt W8 (some ⟨g, 0, none⟩) n c L) := by rw [hW8]; exact (ER7.out.keep kC).setCell _ _ (fun x e _ => by cases e; exact NG7.out)
        have R8 : Hid (EntsAt W8 (some ⟨gC, 0, none⟩) (n + 1) cC (L ++ [(s, q, d, t, nn)])) := by rw [hW8]; exact rC.entsAt.setCell _ _ (fun x e _ => by cases e; exact gC7)
        have K8 : Hid (Below w.heap.size w W8) := by rw [hW8]; exact (K7.out.trans (kC.mono K7.out.size)).setCell (p := ⟨X7, 0, none⟩) w7 _
        clear hW8 hHeld gC7 q0 q1 qf e0 e1 e2 e3 e4 hown hown2 hgrow hgrow2 hnil hnil2 rC rB rA rN kB kC k0 HMK HMS ER7 K7
        obtain ⟨X8, hX8⟩ : ∃ X8, X8 = W8.heap.size := ⟨_, rfl⟩
        obtain ⟨W9, hW9⟩ : ∃ W9, W9 = W8.alloc (.cells #[.slice none 0 0, .int .i64 m] 25) := ⟨_, rfl⟩
        have k9 : Below W8.heap.size W8 W9 := by rw [hW9]; exact (Below.refl _ _).alloc (Nat.le_refl _) _
        have z0 : W9.cell? ⟨X8, 0, none⟩ = some (.slice none 0 0) := by rw [hW9, hX8]; simp
        have z1 : W9.cell? ⟨X8, 1, none⟩ = some (.int .i64 m) := by rw [hW9, hX8]; simp
        have vd0 := cell_later k9 d0
        have vd1 := cell_later k9 d1
        have vp0 := cell_later k9 p0
        have vp1 := cell_later k9 p1
        have vy0 := cell_later k9 y0
        have vy1 := cell_later k9 y1
        have E9 : Hid (EntsAt W9 (some ⟨g, 0, none⟩) n c L) := E8.out.keep k9
        have R9 : Hid (EntsAt W9 (some ⟨gC, 0, none⟩) (n + 1) cC (L ++ [(s, q, d, t, nn)])) := R8.out.keep k9
        have K9 : Hid (Below w.heap.size w W9) := K8.out.trans (k9.mono K8.out.size)
        have CX : Hid (∀ w', Below W9.heap.size W9 w' → Calls Try.prog 17 #[.agg #[.slice (some ⟨g, 0, none⟩) n c, .int .i64 (m + 65536)]] w' fun e w'' => e = .returned (.bool false) ∧ Below w'.heap.size w' w'') := by rw [← bent_mask HR.out]; exact fun w' k => implRunOk _ _ _ L (m + 65536) w' (E9.out.keep k)
        have CY : Hid (∀ w', Below W9.heap.size W9 w' → Calls Try.prog 17 #[.agg #[.slice (some ⟨gC, 0, none⟩) (n + 1) cC, .int .i64 m]] w' fun e w'' => e = .returned (.bool false) ∧ Below w'.heap.size w' w'') := by rw [← bent_more HR.out HG.out]; exact fun w' k => implRunOk _ _ _ (L ++ [(s, q, d, t, nn)]) m w' (R9.out.keep k)
        have CZ : Hid (∀ w', Below W9.heap.size W9 w' → Calls Try.prog 17 #[.agg #[.slice none 0 0, .int .i64 m]] w' fun e w'' => e = .returned (.bool false) ∧ Below w'.heap.size w' w'') := by rw [← bent_none m]; exact fun w' k => implRunOk _ _ _ [] m w' (ents_nil w')
        have CRX : Hid (∀ w', Below W9.heap.size W9 w' → Calls Try.prog 15 #[.agg #[.slice (some ⟨g, 0, none⟩) n c, .int .i64 m], .agg #[.slice (some ⟨g, 0, none⟩) n c, .int .i64 (m + 65536)]] w' fun e w'' => e = .returned (.bool false) ∧ Below w'.heap.size w' w'') := by rw [← same_mask m L]; exact fun w' k => implRunSame _ _ _ _ _ _ _ _ L L w' (E9.out.keep k) (E9.out.keep k)
        have CRY : Hid (∀ w', Below W9.heap.size W9 w' → Calls Try.prog 15 #[.agg #[.slice (some ⟨g, 0, none⟩) n c, .int .i64 m], .agg #[.slice (some ⟨gC, 0, none⟩) (n + 1) cC, .int .i64 m]] w' fun e w'' => e = .returned (.bool false) ∧ Below w'.heap.size w' w'') := by rw [← same_more m L (s, q, d, t, nn)]; exact fun w' k => implRunSame _ _ _ _ _ _ _ _ L (L ++ [(s, q, d, t, nn)]) w' (E9.out.keep k) (R9.out.keep k)
        have zd := World.block_lt_of_cell? _ _ d0
        have zp := World.block_lt_of_cell? _ _ p0
        simp only at zd zp
        go_wp2_with fail
        rw [← hW9]
        try rw [← hX8]
        clear hW9 hX8 d0 d1 p0 p1 y0 y1 zd zp k9 E8 R8 K8
        have L0 : Below W9.heap.size W9 W9 := Below.refl _ _
        refine (CX.out _ L0).mono ?_
        rintro e wv0 ⟨rfl, bv0⟩
        have L1 : Below W9.heap.size W9 wv0 := L0.trans (bv0.mono L0.size)
        have d0_0 := cell_later L1 vd0
        have d0_1 := cell_later L1 vd1
        have ld0 := World.block_lt_of_cell? _ _ d0_0
        have p0_0 := cell_later L1 vp0
        have p0_1 := cell_later L1 vp1
        have lp0 := World.block_lt_of_cell? _ _ p0_0
        have y0_0 := cell_later L1 vy0
        have y0_1 := cell_later L1 vy1
        have ly0 := World.block_lt_of_cell? _ _ y0_0
        have z0_0 := cell_later L1 z0
        have z0_1 := cell_later L1 z1
        have lz0 := World.block_lt_of_cell? _ _ z0_0
        simp only at ld0 lp0 ly0 lz0
        clear bv0
        go_wp2_with fail
        clear d0_0 d0_1 p0_0 p0_1 y0_0 y0_1 z0_0 z0_1 ld0 lp0 ly0 lz0
        refine (CY.out _ L1).mono ?_
        rintro e wv1 ⟨rfl, bv1⟩
        have L2 : Below W9.heap.size W9 wv1 := L1.trans (bv1.mono L1.size)
        have d1_0 := cell_later L2 vd0
        have d1_1 := cell_later L2 vd1
        have ld1 := World.block_lt_of_cell? _ _ d1_0
        have p1_0 := cell_later L2 vp0
        have p1_1 := cell_later L2 vp1
        have lp1 := World.block_lt_of_cell? _ _ p1_0
        have y1_0 := cell_later L2 vy0
        have y1_1 := cell_later L2 vy1
        have ly1 := World.block_lt_of_cell? _ _ y1_0
        have z1_0 := cell_later L2 z0
        have z1_1 := cell_later L2 z1
        have lz1 := World.block_lt_of_cell? _ _ z1_0
        simp only at ld1 lp1 ly1 lz1
        clear bv1
        go_wp2_with fail
        clear d1_0 d1_1 p1_0 p1_1 y1_0 y1_1 z1_0 z1_1 ld1 lp1 ly1 lz1
        refine (CZ.out _ L2).mono ?_
        rintro e wv2 ⟨rfl, bv2⟩
        have L3 : Below W9.heap.size W9 wv2 := L2.trans (bv2.mono L2.size)
        have d2_0 := cell_later L3 vd0
        have d2_1 := cell_later L3 vd1
        have ld2 := World.block_lt_of_cell? _ _ d2_0
        have p2_0 := cell_later L3 vp0
        have p2_1 := cell_later L3 vp1
        have lp2 := World.block_lt_of_cell? _ _ p2_0
        have y2_0 := cell_later L3 vy0
        have y2_1 := cell_later L3 vy1
        have ly2 := World.block_lt_of_cell? _ _ y2_0
        have z2_0 := cell_later L3 z0
        have z2_1 := cell_later L3 z1
        have lz2 := World.block_lt_of_cell? _ _ z2_0
        simp only at ld2 lp2 ly2 lz2
        clear bv2
        go_wp2_with fail
        clear d2_0 d2_1 p2_0 p2_1 y2_0 y2_1 z2_0 z2_1 ld2 lp2 ly2 lz2
        refine (CRX.out _ L3).mono ?_
        rintro e wv3 ⟨rfl, bv3⟩
        have L4 : Below W9.heap.size W9 wv3 := L3.trans (bv3.mono L3.size)
        have d3_0 := cell_later L4 vd0
        have d3_1 := cell_later L4 vd1
        have ld3 := World.block_lt_of_cell? _ _ d3_0
        have p3_0 := cell_later L4 vp0
        have p3_1 := cell_later L4 vp1
        have lp3 := World.block_lt_of_cell? _ _ p3_0
        have y3_0 := cell_later L4 vy0
        have y3_1 := cell_later L4 vy1
        have ly3 := World.block_lt_of_cell? _ _ y3_0
        have z3_0 := cell_later L4 z0
        have z3_1 := cell_later L4 z1
        have lz3 := World.block_lt_of_cell? _ _ z3_0
        simp only at ld3 lp3 ly3 lz3
        clear bv3
        go_wp2_with fail
        clear d3_0 d3_1 p3_0 p3_1 y3_0 y3_1 z3_0 z3_1 ld3 lp3 ly3 lz3
        refine (CRY.out _ L4).mono ?_
        rintro e wv4 ⟨rfl, bv4⟩
        have L5 : Below W9.heap.size W9 wv4 := L4.trans (bv4.mono L4.size)
        go_wp2
        go_ret
        exact ⟨rfl, K9.out.trans (L5.mono K9.out.size)⟩
      · go_simp
        have k0an := k0a.alloc k0a.size (.cells #[.string s, .int .i64 q, .int .i64 d, .string t, .int .i64 nn] 32)
        have rN : OwnE ((wd.alloc (.cells #[] 32)).alloc (.cells #[.string s, .int .i64 q, .int .i64 d, .string t, .int .i64 nn] 32)) W7.heap.size (wd.alloc (.cells #[] 32)).heap.size 1 1 [(s, q, d, t, nn)] := own_one (wd.alloc (.cells #[] 32)) _ k0a.size s t q d nn HW0.out
        have rA := rA.below ((Below.refl (wd.alloc (.cells #[] 32)).heap.size (wd.alloc (.cells #[] 32))).alloc (Nat.le_refl _) (.cells #[.string s, .int .i64 q, .int .i64 d, .string t, .int .i64 nn] 32))
        simp only [World.size_alloc] at rN
        have nAN : wd.heap.size ≠ (wd.heap.size + 1) := by omega
        refine hK.out _ _ (HMK.out _ k0an) (fun hHeld => ?_)
        clear hK K
        try go_frame
        refine wpAnyH_ready (rs := [3]) (by kernel_rfl) (by simp) ?_
        refine consL rfl (fun K hK => ?_) AllReadyH.nil
        refine step_append_own rfl (.tmp 57) (.tmp 59) 23 rfl W7.heap.size 32 i0 _ 5 56 Try.underlying23 hi hz0 hz1 hz2 rfl (Nat.succ_pos 4) _ _ _ rfl rA.owns ⟨g, 0, none⟩ n c (flatE L) rfl ?e0 ?e1 (flatE_one _) ?e3 ?e4 ?e5 ?_
        case e0 => rw [flatE_len]; first | (rw [HLN.out]) | simp
        case e1 => exact ents_news (ER7.out.keep k0an)
        case e3 => unfold maxLen; omega
        case e4 => omega
        case e5 => exact k0an.size
        intro v' wB hown hgrow hnil
        rw [Nat.zero_add] at hown
        obtain ⟨gB, cB, rfl⟩ := row_form hown (fun e => by have := (hnil.1 e).2; omega)
        have rB : OwnE wB W7.heap.size gB n cB L := ⟨by simpa [flatE] using hown, HLN.out, HEW.out⟩
        have kB : Below W7.heap.size W7 wB := k0an.grown hgrow k0an.size (fun j e => by rw [own_G e]; exact rA.lt.1)
        have rN := rN.grown hgrow (fun e => nAN (own_G e.symm).symm)
        refine hK.out _ _ (HMK.out _ kB) (fun hHeld => ?_)
        clear hK K
        try go_frame
        refine wpAnyH_ready (rs := [9]) (by kernel_rfl) (by simp) ?_
        refine consL rfl (fun K hK => ?_) AllReadyH.nil
        refine step_append_own rfl (.tmp 60) (.tmp 65) 23 rfl W7.heap.size 32 i0 _ 5 56 Try.underlying23 hi hz0 hz1 hz2 rfl (Nat.succ_pos 4) _ _ _ rfl rB.owns ⟨(wd.heap.size + 1), 0, none⟩ 1 1 (flatE [(s, q, d, t, nn)]) rfl ?e0 ?e1 (flatE_one _) ?e3 ?e4 ?e5 ?_
        case e0 => rw [flatE_len]; first | (rw [HLN.out]) | simp
        case e1 => exact ents_news rN.entsAt
        case e3 => unfold maxLen; omega
        case e4 => omega
        case e5 => exact kB.size
        intro v' wC hown2 hgrow2 hnil2
        obtain ⟨gC, cC, rfl⟩ := row_form hown2 (fun e => by have := (hnil2.1 e).2; omega)
        have rC : OwnE wC W7.heap.size gC (n + 1) cC (L ++ [(s, q, d, t, nn)]) := ⟨by rw [flatE_append]; exact hown2, by simp [HLN.out], fun e he => by rcases List.mem_append.1 he with h | h; exact HEW.out e h; simp at h; subst h; exact HW0.out⟩
        have kC : Below W7.heap.size W7 wC := kB.grown hgrow2 kB.size (fun j e => by rw [own_G e]; exact rB.lt.1)
        refine hK.out _ _ (HMK.out _ kC) (fun hHeld => ?_)
        clear hK K
        try go_frame
        refine wpAnyH_takeL (i := 10) (v := ?_) rfl (by kernel_rfl) (by kernel_rfl) (by kernel_rfl) (fun _ _ _ h => h) (Or.inl ⟨by rfl, ?_⟩) hHeld ?_
        rotate_left
        · (intro w hSw; (try dsimp only at hSw); go_simp; try with_reducible rfl)
        try go_frame
        refine wpAnyH_ready (rs := [11]) (by kernel_rfl) (by simp) ?_
        refine consL rfl (fun K hK => ?_) AllReadyH.nil
        have s0 := cell_later kC q0
        have sf := (kC.frozen (p := ⟨X7, 0, none⟩) (World.block_lt_of_cell? _ _ q0)).trans (qf 0)
        go_simp
        refine hK.out _ _ (HMS.out _ _ kC) (fun hHeld => ?_)
        clear hK K
        try go_frame
        refine wpAnyH_done (by kernel_rfl) ?_ _
        obtain ⟨W8, hW8⟩ : ∃ W8, W8 = wC.setCell ⟨X7, 0, none⟩ (.slice (some ⟨gC, 0, none⟩) (n + 1) cC) := ⟨_, rfl⟩
        rw [← hW8]
        have gC7 : gC ≠ X7 := by have := rC.lt.1; have := World.block_lt_of_cell? _ _ q0; simp only at this; omega
        have d0 : W8.cell? ⟨X5, 0, none⟩ = some (.slice (some ⟨g, 0, none⟩) n c) := by rw [hW8]; exact (cell_far _ N57.out).trans (cell_later kC d0)
        have d1 : W8.cell? ⟨X5, 1, none⟩ = some (.int .i64 m) := by rw [hW8]; exact (cell_far _ N57.out).trans (cell_later kC d1)
        have p0 : W8.cell? ⟨X6, 0, none⟩ = some (.slice (some ⟨g, 0, none⟩) n c) := by rw [hW8]; exact (cell_far _ N67.out).trans (cell_later kC p0)
        have p1 : W8.cell? ⟨X6, 1, none⟩ = some (.int .i64 (m + 65536)) := by rw [hW8]; exact (cell_far _ N67.out).trans (cell_later kC p1)
        have y0 : W8.cell? ⟨X7, 0, none⟩ = some (.slice (some ⟨gC, 0, none⟩) (n + 1) cC) := by rw [hW8]; exact World.cell?_setCell_same' _ _ _ (by rw [cell_later kC q0]; rfl)
        have y1 : W8.cell? ⟨X7, 1, none⟩ = some (.int .i64 m) := by rw [hW8]; exact (World.cell?_setCell_other _ _ _ _ (by simp)).trans (cell_later kC q1)
        have E8 : Hid (EntsAt W8 (some ⟨g, 0, none⟩) n c L) := by rw [hW8]; exact (ER7.out.keep kC).setCell _ _ (fun x e _ => by cases e; exact NG7.out)
        have R8 : Hid (EntsAt W8 (some ⟨gC, 0, none⟩) (n + 1) cC (L ++ [(s, q, d, t, nn)])) := by rw [hW8]; exact rC.entsAt.setCell _ _ (fun x e _ => by cases e; exact gC7)
        have K8 : Hid (Below w.heap.size w W8) := by rw [hW8]; exact (K7.out.trans (kC.mono K7.out.size)).setCell (p := ⟨X7, 0, none⟩) w7 _
        clear hW8 hHeld gC7 q0 q1 qf e0 e1 e2 e3 e4 hown hown2 hgrow hgrow2 hnil hnil2 rC rB rA rN kB kC k0 HMK HMS ER7 K7
        obtain ⟨X8, hX8⟩ : ∃ X8, X8 = W8.heap.size := ⟨_, rfl⟩
        obtain ⟨W9, hW9⟩ : ∃ W9, W9 = W8.alloc (.cells #[.slice none 0 0, .int .i64 m] 25) := ⟨_, rfl⟩
        have k9 : Below W8.heap.size W8 W9 := by rw [hW9]; exact (Below.refl _ _).alloc (Nat.le_refl _) _
        have z0 : W9.cell? ⟨X8, 0, none⟩ = some (.slice none 0 0) := by rw [hW9, hX8]; simp
        have z1 : W9.cell? ⟨X8, 1, none⟩ = some (.int .i64 m) := by rw [hW9, hX8]; simp
        have vd0 := cell_later k9 d0
        have vd1 := cell_later k9 d1
        have vp0 := cell_later k9 p0
        have vp1 := cell_later k9 p1
        have vy0 := cell_later k9 y0
        have vy1 := cell_later k9 y1
        have E9 : Hid (EntsAt W9 (some ⟨g, 0, none⟩) n c L) := E8.out.keep k9
        have R9 : Hid (EntsAt W9 (some ⟨gC, 0, none⟩) (n + 1) cC (L ++ [(s, q, d, t, nn)])) := R8.out.keep k9
        have K9 : Hid (Below w.heap.size w W9) := K8.out.trans (k9.mono K8.out.size)
        have CX : Hid (∀ w', Below W9.heap.size W9 w' → Calls Try.prog 17 #[.agg #[.slice (some ⟨g, 0, none⟩) n c, .int .i64 (m + 65536)]] w' fun e w'' => e = .returned (.bool false) ∧ Below w'.heap.size w' w'') := by rw [← bent_mask HR.out]; exact fun w' k => implRunOk _ _ _ L (m + 65536) w' (E9.out.keep k)
        have CY : Hid (∀ w', Below W9.heap.size W9 w' → Calls Try.prog 17 #[.agg #[.slice (some ⟨gC, 0, none⟩) (n + 1) cC, .int .i64 m]] w' fun e w'' => e = .returned (.bool false) ∧ Below w'.heap.size w' w'') := by rw [← bent_more HR.out HG.out]; exact fun w' k => implRunOk _ _ _ (L ++ [(s, q, d, t, nn)]) m w' (R9.out.keep k)
        have CZ : Hid (∀ w', Below W9.heap.size W9 w' → Calls Try.prog 17 #[.agg #[.slice none 0 0, .int .i64 m]] w' fun e w'' => e = .returned (.bool false) ∧ Below w'.heap.size w' w'') := by rw [← bent_none m]; exact fun w' k => implRunOk _ _ _ [] m w' (ents_nil w')
        have CRX : Hid (∀ w', Below W9.heap.size W9 w' → Calls Try.prog 15 #[.agg #[.slice (some ⟨g, 0, none⟩) n c, .int .i64 m], .agg #[.slice (some ⟨g, 0, none⟩) n c, .int .i64 (m + 65536)]] w' fun e w'' => e = .returned (.bool false) ∧ Below w'.heap.size w' w'') := by rw [← same_mask m L]; exact fun w' k => implRunSame _ _ _ _ _ _ _ _ L L w' (E9.out.keep k) (E9.out.keep k)
        have CRY : Hid (∀ w', Below W9.heap.size W9 w' → Calls Try.prog 15 #[.agg #[.slice (some ⟨g, 0, none⟩) n c, .int .i64 m], .agg #[.slice (some ⟨gC, 0, none⟩) (n + 1) cC, .int .i64 m]] w' fun e w'' => e = .returned (.bool false) ∧ Below w'.heap.size w' w'') := by rw [← same_more m L (s, q, d, t, nn)]; exact fun w' k => implRunSame _ _ _ _ _ _ _ _ L (L ++ [(s, q, d, t, nn)]) w' (E9.out.keep k) (R9.out.keep k)
        have zd := World.block_lt_of_cell? _ _ d0
        have zp := World.block_lt_of_cell? _ _ p0
        simp only at zd zp
        go_wp2_with fail
        rw [← hW9]
        try rw [← hX8]
        clear hW9 hX8 d0 d1 p0 p1 y0 y1 zd zp k9 E8 R8 K8
        have L0 : Below W9.heap.size W9 W9 := Below.refl _ _
        refine (CX.out _ L0).mono ?_
        rintro e wv0 ⟨rfl, bv0⟩
        have L1 : Below W9.heap.size W9 wv0 := L0.trans (bv0.mono L0.size)
        have d0_0 := cell_later L1 vd0
        have d0_1 := cell_later L1 vd1
        have ld0 := World.block_lt_of_cell? _ _ d0_0
        have p0_0 := cell_later L1 vp0
        have p0_1 := cell_later L1 vp1
        have lp0 := World.block_lt_of_cell? _ _ p0_0
        have y0_0 := cell_later L1 vy0
        have y0_1 := cell_later L1 vy1
        have ly0 := World.block_lt_of_cell? _ _ y0_0
        have z0_0 := cell_later L1 z0
        have z0_1 := cell_later L1 z1
        have lz0 := World.block_lt_of_cell? _ _ z0_0
        simp only at ld0 lp0 ly0 lz0
        clear bv0
        go_wp2_with fail
        clear d0_0 d0_1 p0_0 p0_1 y0_0 y0_1 z0_0 z0_1 ld0 lp0 ly0 lz0
        refine (CY.out _ L1).mono ?_
        rintro e wv1 ⟨rfl, bv1⟩
        have L2 : Below W9.heap.size W9 wv1 := L1.trans (bv1.mono L1.size)
        have d1_0 := cell_later L2 vd0
        have d1_1 := cell_later L2 vd1
        have ld1 := World.block_lt_of_cell? _ _ d1_0
        have p1_0 := cell_later L2 vp0
        have p1_1 := cell_later L2 vp1
        have lp1 := World.block_lt_of_cell? _ _ p1_0
        have y1_0 := cell_later L2 vy0
        have y1_1 := cell_later L2 vy1
        have ly1 := World.block_lt_of_cell? _ _ y1_0
        have z1_0 := cell_later L2 z0
        have z1_1 := cell_later L2 z1
        have lz1 := World.block_lt_of_cell? _ _ z1_0
        simp only at ld1 lp1 ly1 lz1
        clear bv1
        go_wp2_with fail
        clear d1_0 d1_1 p1_0 p1_1 y1_0 y1_1 z1_0 z1_1 ld1 lp1 ly1 lz1
        refine (CZ.out _ L2).mono ?_
        rintro e wv2 ⟨rfl, bv2⟩
        have L3 : Below W9.heap.size W9 wv2 := L2.trans (bv2.mono L2.size)
        have d2_0 := cell_later L3 vd0
        have d2_1 := cell_later L3 vd1
        have ld2 := World.block_lt_of_cell? _ _ d2_0
        have p2_0 := cell_later L3 vp0
        have p2_1 := cell_later L3 vp1
        have lp2 := World.block_lt_of_cell? _ _ p2_0
        have y2_0 := cell_later L3 vy0
        have y2_1 := cell_later L3 vy1
        have ly2 := World.block_lt_of_cell? _ _ y2_0
        have z2_0 := cell_later L3 z0
        have z2_1 := cell_later L3 z1
        have lz2 := World.block_lt_of_cell? _ _ z2_0
        simp only at ld2 lp2 ly2 lz2
        clear bv2
        go_wp2_with fail
        clear d2_0 d2_1 p2_0 p2_1 y2_0 y2_1 z2_0 z2_1 ld2 lp2 ly2 lz2
        refine (CRX.out _ L3).mono ?_
        rintro e wv3 ⟨rfl, bv3⟩
        have L4 : Below W9.heap.size W9 wv3 := L3.trans (bv3.mono L3.size)
        have d3_0 := cell_later L4 vd0
        have d3_1 := cell_later L4 vd1
        have ld3 := World.block_lt_of_cell? _ _ d3_0
        have p3_0 := cell_later L4 vp0
        have p3_1 := cell_later L4 vp1
        have lp3 := World.block_lt_of_cell? _ _ p3_0
        have y3_0 := cell_later L4 vy0
        have y3_1 := cell_later L4 vy1
        have ly3 := World.block_lt_of_cell? _ _ y3_0
        have z3_0 := cell_later L4 z0
        have z3_1 := cell_later L4 z1
        have lz3 := World.block_lt_of_cell? _ _ z3_0
        simp only at ld3 lp3 ly3 lz3
        clear bv3
        go_wp2_with fail
        clear d3_0 d3_1 p3_0 p3_1 y3_0 y3_1 z3_0 z3_1 ld3 lp3 ly3 lz3
        refine (CRY.out _ L4).mono ?_
        rintro e wv4 ⟨rfl, bv4⟩
        have L5 : Below W9.heap.size W9 wv4 := L4.trans (bv4.mono L4.size)
        go_wp2
        go_ret
        exact ⟨rfl, K9.out.trans (L5.mono K9.out.size)⟩
    · go_simp
      have k0n := k0.alloc k0.size (.cells #[.string s, .int .i64 q, .int .i64 d, .string t, .int .i64 nn] 32)
      have rN : OwnE (wd.alloc (.cells #[.string s, .int .i64 q, .int .i64 d, .string t, .int .i64 nn] 32)) W7.heap.size wd.heap.size 1 1 [(s, q, d, t, nn)] := own_one wd _ k0.size s t q d nn HW0.out
      refine hK.out _ _ (HMK.out _ k0n) (fun hHeld => ?_)
      clear hK K
      try go_frame
      refine wpAnyH_ready (rs := [0]) (by kernel_rfl) (by simp) ?_
      refine consL rfl (fun K hK => ?_) AllReadyH.nil
      go_simp
      have k0na := k0n.alloc k0n.size (.cells #[] 32)
      have rA : OwnE ((wd.alloc (.cells #[.string s, .int .i64 q, .int .i64 d, .string t, .int .i64 nn] 32)).alloc (.cells #[] 32)) W7.heap.size (wd.alloc (.cells #[.string s, .int .i64 q, .int .i64 d, .string t, .int .i64 nn] 32)).heap.size 0 0 [] := own_empty (wd.alloc (.cells #[.string s, .int .i64 q, .int .i64 d, .string t, .int .i64 nn] 32)) _ k0n.size
      have rN := rN.below ((Below.refl (wd.alloc (.cells #[.string s, .int .i64 q, .int .i64 d, .string t, .int .i64 nn] 32)).heap.size (wd.alloc (.cells #[.string s, .int .i64 q, .int .i64 d, .string t, .int .i64 nn] 32))).alloc (Nat.le_refl _) (.cells #[] 32))
      simp only [World.size_alloc] at rA
      have nAN : (wd.heap.size + 1) ≠ wd.heap.size := by omega
      refine hK.out _ _ (HMK.out _ k0na) (fun hHeld => ?_)
      clear hK K
      try go_frame
      refine wpAnyH_ready (rs := [3]) (by kernel_rfl) (by simp) ?_
      refine consL rfl (fun K hK => ?_) AllReadyH.nil
      refine step_append_own rfl (.tmp 57) (.tmp 59) 23 rfl W7.heap.size 32 i0 _ 5 56 Try.underlying23 hi hz0 hz1 hz2 rfl (Nat.succ_pos 4) _ _ _ rfl rA.owns ⟨g, 0, none⟩ n c (flatE L) rfl ?e0 ?e1 (flatE_one _) ?e3 ?e4 ?e5 ?_
      case e0 => rw [flatE_len]; first | (rw [HLN.out]) | simp
      case e1 => exact ents_news (ER7.out.keep k0na)
      case e3 => unfold maxLen; omega
      case e4 => omega
      case e5 => exact k0na.size
      intro v' wB hown hgrow hnil
      rw [Nat.zero_add] at hown
      obtain ⟨gB, cB, rfl⟩ := row_form hown (fun e => by have := (hnil.1 e).2; omega)
      have rB : OwnE wB W7.heap.size gB n cB L := ⟨by simpa [flatE] using hown, HLN.out, HEW.out⟩
      have kB : Below W7.heap.size W7 wB := k0na.grown hgrow k0na.size (fun j e => by rw [own_G e]; exact rA.lt.1)
      have rN := rN.grown hgrow (fun e => nAN (own_G e.symm).symm)
      refine hK.out _ _ (HMK.out _ kB) (fun hHeld => ?_)
      clear hK K
      try go_frame
      refine wpAnyH_ready (rs := [9]) (by kernel_rfl) (by simp) ?_
      refine consL rfl (fun K hK => ?_) AllReadyH.nil
      refine step_append_own rfl (.tmp 60) (.tmp 65) 23 rfl W7.heap.size 32 i0 _ 5 56 Try.underlying23 hi hz0 hz1 hz2 rfl (Nat.succ_pos 4) _ _ _ rfl rB.owns ⟨wd.heap.size, 0, none⟩ 1 1 (flatE [(s, q, d, t, nn)]) rfl ?e0 ?e1 (flatE_one _) ?e3 ?e4 ?e5 ?_
      case e0 => rw [flatE_len]; first | (rw [HLN.out]) | simp
      case e1 => exact ents_news rN.entsAt
      case e3 => unfold maxLen; omega
      case e4 => omega
      case e5 => exact kB.size
      intro v' wC hown2 hgrow2 hnil2
      obtain ⟨gC, cC, rfl⟩ := row_form hown2 (fun e => by have := (hnil2.1 e).2; omega)
      have rC : OwnE wC W7.heap.size gC (n + 1) cC (L ++ [(s, q, d, t, nn)]) := ⟨by rw [flatE_append]; exact hown2, by simp [HLN.out], fun e he => by rcases List.mem_append.1 he with h | h; exact HEW.out e h; simp at h; subst h; exact HW0.out⟩
      have kC : Below W7.heap.size W7 wC := kB.grown hgrow2 kB.size (fun j e => by rw [own_G e]; exact rB.lt.1)
      refine hK.out _ _ (HMK.out _ kC) (fun hHeld => ?_)
      clear hK K
      try go_frame
      refine wpAnyH_takeL (i := 10) (v := ?_) rfl (by kernel_rfl) (by kernel_rfl) (by kernel_rfl) (fun _ _ _ h => h) (Or.inl ⟨by rfl, ?_⟩) hHeld ?_
      rotate_left
      · (intro w hSw; (try dsimp only at hSw); go_simp; try with_reducible rfl)
      try go_frame
      refine wpAnyH_ready (rs := [11]) (by kernel_rfl) (by simp) ?_
      refine consL rfl (fun K hK => ?_) AllReadyH.nil
      have s0 := cell_later kC q0
      have sf := (kC.frozen (p := ⟨X7, 0, none⟩) (World.block_lt_of_cell? _ _ q0)).trans (qf 0)
      go_simp
      refine hK.out _ _ (HMS.out _ _ kC) (fun hHeld => ?_)
      clear hK K
      try go_frame
      refine wpAnyH_done (by kernel_rfl) ?_ _
      obtain ⟨W8, hW8⟩ : ∃ W8, W8 = wC.setCell ⟨X7, 0, none⟩ (.slice (some ⟨gC, 0, none⟩) (n + 1) cC) := ⟨_, rfl⟩
      rw [← hW8]
      have gC7 : gC ≠ X7 := by have := rC.lt.1; have := World.block_lt_of_cell? _ _ q0; simp only at this; omega
      have d0 : W8.cell? ⟨X5, 0, none⟩ = some (.slice (some ⟨g, 0, none⟩) n c) := by rw [hW8]; exact (cell_far _ N57.out).trans (cell_later kC d0)
      have d1 : W8.cell? ⟨X5, 1, none⟩ = some (.int .i64 m) := by rw [hW8]; exact (cell_far _ N57.out).trans (cell_later kC d1)
      have p0 : W8.cell? ⟨X6, 0, none⟩ = some (.slice (some ⟨g, 0, none⟩) n c) := by rw [hW8]; exact (cell_far _ N67.out).trans (cell_later kC p0)
      have p1 : W8.cell? ⟨X6, 1, none⟩ = some (.int .i64 (m + 65536)) := by rw [hW8]; exact (cell_far _ N67.out).trans (cell_later kC p1)
      have y0 : W8.cell? ⟨X7, 0, none⟩ = some (.slice (some ⟨gC, 0, none⟩) (n + 1) cC) := by rw [hW8]; exact World.cell?_setCell_same' _ _ _ (by rw [cell_later kC q0]; rfl)
      have y1 : W8.cell? ⟨X7, 1, none⟩ = some (.int .i64 m) := by rw [hW8]; exact (World.cell?_setCell_other _ _ _ _ (by simp)).trans (cell_later kC q1)
      have E8 : Hid (EntsAt W8 (some ⟨g, 0, none⟩) n c L) := by rw [hW8]; exact (ER7.out.keep kC).setCell _ _ (fun x e _ => by cases e; exact NG7.out)
      have R8 : Hid (EntsAt W8 (some ⟨gC, 0, none⟩) (n + 1) cC (L ++ [(s, q, d, t, nn)])) := by rw [hW8]; exact rC.entsAt.setCell _ _ (fun x e _ => by cases e; exact gC7)
      have K8 : Hid (Below w.heap.size w W8) := by rw [hW8]; exact (K7.out.trans (kC.mono K7.out.size)).setCell (p := ⟨X7, 0, none⟩) w7 _
      clear hW8 hHeld gC7 q0 q1 qf e0 e1 e2 e3 e4 hown hown2 hgrow hgrow2 hnil hnil2 rC rB rA rN kB kC k0 HMK HMS ER7 K7
      obtain ⟨X8, hX8⟩ : ∃ X8, X8 = W8.heap.size := ⟨_, rfl⟩
      obtain ⟨W9, hW9⟩ : ∃ W9, W9 = W8.alloc (.cells #[.slice none 0 0, .int .i64 m] 25) := ⟨_, rfl⟩
      have k9 : Below W8.heap.size W8 W9 := by rw [hW9]; exact (Below.refl _ _).alloc (Nat.le_refl _) _
      have z0 : W9.cell? ⟨X8, 0, none⟩ = some (.slice none 0 0) := by rw [hW9, hX8]; simp
      have z1 : W9.cell? ⟨X8, 1, none⟩ = some (.int .i64 m) := by rw [hW9, hX8]; simp
      have vd0 := cell_later k9 d0
      have vd1 := cell_later k9 d1
      have vp0 := cell_later k9 p0
      have vp1 := cell_later k9 p1
      have vy0 := cell_later k9 y0
      have vy1 := cell_later k9 y1
      have E9 : Hid (EntsAt W9 (some ⟨g, 0, none⟩) n c L) := E8.out.keep k9
      have R9 : Hid (EntsAt W9 (some ⟨gC, 0, none⟩) (n + 1) cC (L ++ [(s, q, d, t, nn)])) := R8.out.keep k9
      have K9 : Hid (Below w.heap.size w W9) := K8.out.trans (k9.mono K8.out.size)
      have CX : Hid (∀ w', Below W9.heap.size W9 w' → Calls Try.prog 17 #[.agg #[.slice (some ⟨g, 0, none⟩) n c, .int .i64 (m + 65536)]] w' fun e w'' => e = .returned (.bool false) ∧ Below w'.heap.size w' w'') := by rw [← bent_mask HR.out]; exact fun w' k => implRunOk _ _ _ L (m + 65536) w' (E9.out.keep k)
      have CY : Hid (∀ w', Below W9.heap.size W9 w' → Calls Try.prog 17 #[.agg #[.slice (some ⟨gC, 0, none⟩) (n + 1) cC, .int .i64 m]] w' fun e w'' => e = .returned (.bool false) ∧ Below w'.heap.size w' w'') := by rw [← bent_more HR.out HG.out]; exact fun w' k => implRunOk _ _ _ (L ++ [(s, q, d, t, nn)]) m w' (R9.out.keep k)
      have CZ : Hid (∀ w', Below W9.heap.size W9 w' → Calls Try.prog 17 #[.agg #[.slice none 0 0, .int .i64 m]] w' fun e w'' => e = .returned (.bool false) ∧ Below w'.heap.size w' w'') := by rw [← bent_none m]; exact fun w' k => implRunOk _ _ _ [] m w' (ents_nil w')
      have CRX : Hid (∀ w', Below W9.heap.size W9 w' → Calls Try.prog 15 #[.agg #[.slice (some ⟨g, 0, none⟩) n c, .int .i64 m], .agg #[.slice (some ⟨g, 0, none⟩) n c, .int .i64 (m + 65536)]] w' fun e w'' => e = .returned (.bool false) ∧ Below w'.heap.size w' w'') := by rw [← same_mask m L]; exact fun w' k => implRunSame _ _ _ _ _ _ _ _ L L w' (E9.out.keep k) (E9.out.keep k)
      have CRY : Hid (∀ w', Below W9.heap.size W9 w' → Calls Try.prog 15 #[.agg #[.slice (some ⟨g, 0, none⟩) n c, .int .i64 m], .agg #[.slice (some ⟨gC, 0, none⟩) (n + 1) cC, .int .i64 m]] w' fun e w'' => e = .returned (.bool false) ∧ Below w'.heap.size w' w'') := by rw [← same_more m L (s, q, d, t, nn)]; exact fun w' k => implRunSame _ _ _ _ _ _ _ _ L (L ++ [(s, q, d, t, nn)]) w' (E9.out.keep k) (R9.out.keep k)
      have zd := World.block_lt_of_cell? _ _ d0
      have zp := World.block_lt_of_cell? _ _ p0
      simp only at zd zp
      go_wp2_with fail
      rw [← hW9]
      try rw [← hX8]
      clear hW9 hX8 d0 d1 p0 p1 y0 y1 zd zp k9 E8 R8 K8
      have L0 : Below W9.heap.size W9 W9 := Below.refl _ _
      refine (CX.out _ L0).mono ?_
      rintro e wv0 ⟨rfl, bv0⟩
      have L1 : Below W9.heap.size W9 wv0 := L0.trans (bv0.mono L0.size)
      have d0_0 := cell_later L1 vd0
      have d0_1 := cell_later L1 vd1
      have ld0 := World.block_lt_of_cell? _ _ d0_0
      have p0_0 := cell_later L1 vp0
      have p0_1 := cell_later L1 vp1
      have lp0 := World.block_lt_of_cell? _ _ p0_0
      have y0_0 := cell_later L1 vy0
      have y0_1 := cell_later L1 vy1
      have ly0 := World.block_lt_of_cell? _ _ y0_0
      have z0_0 := cell_later L1 z0
      have z0_1 := cell_later L1 z1
      have lz0 := World.block_lt_of_cell? _ _ z0_0
      simp only at ld0 lp0 ly0 lz0
      clear bv0
      go_wp2_with fail
      clear d0_0 d0_1 p0_0 p0_1 y0_0 y0_1 z0_0 z0_1 ld0 lp0 ly0 lz0
      refine (CY.out _ L1).mono ?_
      rintro e wv1 ⟨rfl, bv1⟩
      have L2 : Below W9.heap.size W9 wv1 := L1.trans (bv1.mono L1.size)
      have d1_0 := cell_later L2 vd0
      have d1_1 := cell_later L2 vd1
      have ld1 := World.block_lt_of_cell? _ _ d1_0
      have p1_0 := cell_later L2 vp0
      have p1_1 := cell_later L2 vp1
      have lp1 := World.block_lt_of_cell? _ _ p1_0
      have y1_0 := cell_later L2 vy0
      have y1_1 := cell_later L2 vy1
      have ly1 := World.block_lt_of_cell? _ _ y1_0
      have z1_0 := cell_later L2 z0
      have z1_1 := cell_later L2 z1
      have lz1 := World.block_lt_of_cell? _ _ z1_0
      simp only at ld1 lp1 ly1 lz1
      clear bv1
      go_wp2_with fail
      clear d1_0 d1_1 p1_0 p1_1 y1_0 y1_1 z1_0 z1_1 ld1 lp1 ly1 lz1
      refine (CZ.out _ L2).mono ?_
      rintro e wv2 ⟨rfl, bv2⟩
      have L3 : Below W9.heap.size W9 wv2 := L2.trans (bv2.mono L2.size)
      have d2_0 := cell_later L3 vd0
      have d2_1 := cell_later L3 vd1
      have ld2 := World.block_lt_of_cell? _ _ d2_0
      have p2_0 := cell_later L3 vp0
      have p2_1 := cell_later L3 vp1
      have lp2 := World.block_lt_of_cell? _ _ p2_0
      have y2_0 := cell_later L3 vy0
      have y2_1 := cell_later L3 vy1
      have ly2 := World.block_lt_of_cell? _ _ y2_0
      have z2_0 := cell_later L3 z0
      have z2_1 := cell_later L3 z1
      have lz2 := World.block_lt_of_cell? _ _ z2_0
      simp only at ld2 lp2 ly2 lz2
      clear bv2
      go_wp2_with fail
      clear d2_0 d2_1 p2_0 p2_1 y2_0 y2_1 z2_0 z2_1 ld2 lp2 ly2 lz2
      refine (CRX.out _ L3).mono ?_
      rintro e wv3 ⟨rfl, bv3⟩
      have L4 : Below W9.heap.size W9 wv3 := L3.trans (bv3.mono L3.size)
      have d3_0 := cell_later L4 vd0
      have d3_1 := cell_later L4 vd1
      have ld3 := World.block_lt_of_cell? _ _ d3_0
      have p3_0 := cell_later L4 vp0
      have p3_1 := cell_later L4 vp1
      have lp3 := World.block_lt_of_cell? _ _ p3_0
      have y3_0 := cell_later L4 vy0
      have y3_1 := cell_later L4 vy1
      have ly3 := World.block_lt_of_cell? _ _ y3_0
      have z3_0 := cell_later L4 z0
      have z3_1 := cell_later L4 z1
      have lz3 := World.block_lt_of_cell? _ _ z3_0
      simp only at ld3 lp3 ly3 lz3
      clear bv3
      go_wp2_with fail
      clear d3_0 d3_1 p3_0 p3_1 y3_0 y3_1 z3_0 z3_1 ld3 lp3 ly3 lz3
      refine (CRY.out _ L4).mono ?_
      rintro e wv4 ⟨rfl, bv4⟩
      have L5 : Below W9.heap.size W9 wv4 := L4.trans (bv4.mono L4.size)
      go_wp2
      go_ret
      exact ⟨rfl, K9.out.trans (L5.mono K9.out.size)⟩
end Go.Proofs.Ytnopbjhlnjbodaa
