/-
  The walk of the law FnPostBent: it answers true at all bytes: a posting that is bent is refused, and is another one.
-/
import Derived.Test.YtkeodfajgpbgaaaDrawBent2
import Derived.Test.YtkeodfajgpbgaaaAcct
import Derived.Test.YtkeodfajgpbgaaaLeg
import Derived.Test.YtkeodfajgpbgaaaPostOkI
import Derived.Test.YtkeodfajgpbgaaaSameI
import Derived.Test.YtkeodfajgpbgaaaSameS
import Derived.Deep.AppendLies
namespace Go.Proofs.Ytkeodfajgpbgaaa
open Go.RowKit

/-- A leg of nothing. -/
def legZ : LegD := (⟨#[97]⟩, 1, 0)
theorem legZ_bad : legB legZ = false := by decide
theorem bp_self (i : Int) (L : List LegD) : sameB i L i L = true := by simp [sameB]
theorem bp_comm (i j : Int) (L M : List LegD) : sameB i L j M = sameB j M i L := by
  unfold sameB
  rw [Bool.eq_iff_iff]
  simp
  constructor <;> (rintro ⟨rfl, rfl⟩; exact ⟨rfl, rfl⟩)
theorem bp_none (i : Int) : postB i [] = false := by simp [postB]
theorem bp_id (L : List LegD) : postB 100 L = false := by simp [postB]
theorem bp_zero (i : Int) (L : List LegD) : postB i (L ++ [legZ]) = false := by
  simp [postB, legZ_bad]
theorem bp_many (i : Int) {L : List LegD} (h : 4 < L.length) : postB i L = false := by
  have : decide (L.length ≤ 4) = false := decide_eq_false (by omega)
  simp [postB, this]
theorem bp_parts {i : Int} {L : List LegD} (h : postB i L = true) : 0 ≤ i ∧ i ≤ 99 ∧ 1 ≤ L.length ∧ L.length ≤ 4 := by
  simp [postB] at h
  omega
theorem bp_sameid {i : Int} (h : i ≤ 99) (L : List LegD) : sameB i L 100 L = false := by
  unfold sameB
  rw [decide_eq_false (by omega)]
  rfl
theorem bp_samemore (i : Int) (L : List LegD) (l : LegD) : sameB i L i (L ++ [l]) = false := by
  unfold sameB
  rw [decide_eq_false (p := L = L ++ [l]) (fun h => by have := congrArg List.length h; simp at this)]
  simp
theorem bp_nil (w : World) : LegsAt w none 0 0 [] := ⟨rfl, Nat.le_refl _, Nat.zero_le _, by simp, fun _ => rfl, (fun x e => by cases e), (fun x e => by cases e)⟩
theorem drawn_empty (w : World) (base : Nat) (h : base ≤ w.heap.size) : DrawnAt (w.alloc (.cells #[] 69)) base w.heap.size 0 0 [] := by
  have := World.ownsRow_lit (base := base) (e := 69) (size := 3) w #[] 0 (by first | exact h | simp) (by first | exact h | simp) (by first | exact h | simp)
  exact ⟨by simpa [flat] using this, rfl, by simp, by simp⟩
theorem drawn_one (w : World) (base : Nat) (h : base ≤ w.heap.size) : DrawnAt (w.alloc (.cells #[.string ⟨#[97]⟩, .int .i64 1, .int .i64 0] 69)) base w.heap.size 1 1 [legZ] := by
  have := World.ownsRow_lit (base := base) (e := 69) (size := 3) w #[.string ⟨#[97]⟩, .int .i64 1, .int .i64 0] 1 h (by unfold maxLen; omega) rfl
  refine ⟨by simpa [flat, legCells, legZ] using this, rfl, ?_, ?_⟩
  · intro l hl
    simp only [List.mem_singleton] at hl
    subst hl
    exact ⟨by unfold maxLen; decide, by decide, by decide⟩
  · intro l hl
    simp only [List.mem_singleton] at hl
    subst hl
    exact ⟨by decide, by decide⟩

set_option maxRecDepth 100000 in
set_option maxHeartbeats 4000000 in
theorem walkFnPostBent (a : Option Addr) (len cap : Nat) (w : World) (h : BytesAt w a len cap) :
    Calls Try.prog 7 #[.slice a len cap] w fun e w' => e = .returned (.bool true) ∧ Below w.heap.size w w' := by
  have H : Hid (BytesAt w a len cap) := h
  have hm := Nat.le_trans h.1 h.2.1
  unfold maxLen at hm
  clear h
  by_cases hbig : 1048576 < len
  · go_enter Try.func7, Try.ntmps7
    go_wp2
    go_ret
    exact ⟨rfl, Below.refl _ _⟩
  go_enter Try.func7, Try.ntmps7
  go_wp2_with fail
  refine (drawPostSame_any a len cap w H.out).mono ?_
  rintro e w1 ⟨id1, g1, n1, c1, L1, id2, g2, n2, c2, L2, rfl, hL1, hL2, hn1, hn2, hF1, hb1⟩
  obtain ⟨X3, hX3⟩ : ∃ X3, X3 = w1.heap.size := ⟨_, rfl⟩
  obtain ⟨X4, hX4⟩ : ∃ X4, X4 = w1.heap.size + 1 := ⟨_, rfl⟩
  obtain ⟨W1, hW1⟩ : ∃ W1, W1 = (w1.alloc (.cells #[.int .i64 id1, .slice (some ⟨g1, 0, none⟩) n1 c1] 65)).alloc (.cells #[.int .i64 id2, .slice (some ⟨g2, 0, none⟩) n2 c2] 65) := ⟨_, rfl⟩
  have kW1 : Below w1.heap.size w1 W1 := by rw [hW1]; exact ((Below.refl _ _).alloc (Nat.le_refl _) _).alloc (by simp) _
  have x0 : W1.cell? ⟨X3, 0, none⟩ = some (.int .i64 id1) := by rw [hW1, hX3]; simp
  have x1 : W1.cell? ⟨X3, 1, none⟩ = some (.slice (some ⟨g1, 0, none⟩) n1 c1) := by rw [hW1, hX3]; simp
  have u0 : W1.cell? ⟨X4, 0, none⟩ = some (.int .i64 id2) := by rw [hW1, hX4]; simp
  have u1 : W1.cell? ⟨X4, 1, none⟩ = some (.slice (some ⟨g2, 0, none⟩) n2 c2) := by rw [hW1, hX4]; simp
  have E1 : Hid (LegsAt W1 (some ⟨g1, 0, none⟩) n1 c1 L1) := hL1.keep kW1
  have E2 : Hid (LegsAt W1 (some ⟨g2, 0, none⟩) n2 c2 L2) := hL2.keep kW1
  have HLF : Hid (∀ l ∈ L1, FewB l.1) := hF1
  have K1 : Hid (Below w.heap.size w W1) := hb1.trans (kW1.mono hb1.size)
  clear hL1 hL2 kW1 hb1 hF1
  go_wp2_with fail
  rw [← hX4, ← hX3, ← hW1]
  clear hX3 hX4 hW1
  refine (drawLegOk_any a len cap W1 (H.out.keep K1.out)).mono ?_
  rintro e w2 ⟨ls, lc, ln, rfl, hlw, hb2⟩
  obtain ⟨X5, hX5⟩ : ∃ X5, X5 = w2.heap.size := ⟨_, rfl⟩
  obtain ⟨W4, hW4⟩ : ∃ W4, W4 = w2.alloc (.cells #[.string ls, .int .i64 lc, .int .i64 ln] 69) := ⟨_, rfl⟩
  have kW4 : Below w2.heap.size w2 W4 := by rw [hW4]; exact (Below.refl _ _).alloc (Nat.le_refl _) _
  have k14 : Below W1.heap.size W1 W4 := hb2.trans (kW4.mono hb2.size)
  have r0 : W4.cell? ⟨X5, 0, none⟩ = some (.string ls) := by rw [hW4, hX5]; simp
  have r1 : W4.cell? ⟨X5, 1, none⟩ = some (.int .i64 lc) := by rw [hW4, hX5]; simp
  have r2 : W4.cell? ⟨X5, 2, none⟩ = some (.int .i64 ln) := by rw [hW4, hX5]; simp
  have HLS : Hid (ls.size ≤ maxLen) := hlw.1
  have K4 : Hid (Below w.heap.size w W4) := K1.out.trans (k14.mono K1.out.size)
  clear kW4 hb2 hlw
  go_wp2_with fail
  rw [← hX5, ← hW4]
  clear hX5 hW4
  refine (drawAcctOk_any a len cap W4 (H.out.keep K4.out)).mono ?_
  rintro e W5 ⟨ts, rfl, hts, hb5⟩
  have k15 : Below W1.heap.size W1 W5 := k14.trans (hb5.mono k14.size)
  have x0 := cell_later k15 x0
  have x1 := cell_later k15 x1
  have u0 := cell_later k15 u0
  have u1 := cell_later k15 u1
  have r0 := cell_later hb5 r0
  have r1 := cell_later hb5 r1
  have r2 := cell_later hb5 r2
  have E1 : Hid (LegsAt W5 (some ⟨g1, 0, none⟩) n1 c1 L1) := E1.out.keep k15
  have E2 : Hid (LegsAt W5 (some ⟨g2, 0, none⟩) n2 c2 L2) := E2.out.keep k15
  have HTS : Hid (ts.size ≤ maxLen) := Nat.le_trans hts (by unfold maxLen; omega)
  have K5 : Hid (Below w.heap.size w W5) := K4.out.trans (hb5.mono K4.out.size)
  clear hb5 k15 k14 K1 K4 hts
  obtain ⟨B, hB⟩ : ∃ B, B = sameB id1 L1 id2 L2 := ⟨_, rfl⟩
  obtain ⟨BL, hBL⟩ : ∃ BL, BL = legB (ls, lc, ln) := ⟨_, rfl⟩
  obtain ⟨BA, hBA⟩ : ∃ BA, BA = acctB ts := ⟨_, rfl⟩
  obtain ⟨O, hOk⟩ : ∃ O, O = postB id1 L1 := ⟨_, rfl⟩
  have CI : Hid (∀ w', Below W5.heap.size W5 w' → Calls Try.prog 38 #[.agg #[.int .i64 id1, .slice (some ⟨g1, 0, none⟩) n1 c1], .agg #[.int .i64 id2, .slice (some ⟨g2, 0, none⟩) n2 c2]] w' fun e w'' => e = .returned (.bool B) ∧ Below w'.heap.size w' w'') := by rw [hB]; exact fun w' k => implSame _ _ _ _ _ _ _ _ L1 L2 w' (E1.out.keep k) (E2.out.keep k)
  have CS : Hid (∀ w', Below W5.heap.size W5 w' → Calls Try.prog 39 #[.agg #[.int .i64 id1, .slice (some ⟨g1, 0, none⟩) n1 c1], .agg #[.int .i64 id2, .slice (some ⟨g2, 0, none⟩) n2 c2]] w' fun e w'' => e = .returned (.bool B) ∧ Below w'.heap.size w' w'') := by rw [hB]; exact fun w' k => specSame _ _ _ _ _ _ _ _ L1 L2 w' (E1.out.keep k) (E2.out.keep k)
  have CR : Hid (∀ w', Below W5.heap.size W5 w' → Calls Try.prog 38 #[.agg #[.int .i64 id2, .slice (some ⟨g2, 0, none⟩) n2 c2], .agg #[.int .i64 id1, .slice (some ⟨g1, 0, none⟩) n1 c1]] w' fun e w'' => e = .returned (.bool B) ∧ Below w'.heap.size w' w'') := by rw [hB, bp_comm]; exact fun w' k => implSame _ _ _ _ _ _ _ _ L2 L1 w' (E2.out.keep k) (E1.out.keep k)
  have CLI : Hid (∀ w', Below W5.heap.size W5 w' → Calls Try.prog 40 #[.agg #[.string ls, .int .i64 lc, .int .i64 ln]] w' fun e w'' => e = .returned (.bool BL) ∧ Below w'.heap.size w' w'') := by rw [hBL]; exact fun w' k => implLeg ls lc ln w' HLS.out
  have CLS : Hid (∀ w', Below W5.heap.size W5 w' → Calls Try.prog 41 #[.agg #[.string ls, .int .i64 lc, .int .i64 ln]] w' fun e w'' => e = .returned (.bool BL) ∧ Below w'.heap.size w' w'') := by rw [hBL]; exact fun w' k => specLeg ls lc ln w' HLS.out
  have CAI : Hid (∀ w', Below W5.heap.size W5 w' → Calls Try.prog 42 #[.string ts] w' fun e w'' => e = .returned (.bool BA) ∧ Below w'.heap.size w' w'') := by rw [hBA]; exact fun w' k => (implAcct ts w' HTS.out).mono (fun e w'' h => ⟨h.1, by first | exact h.2 | (rw [h.2]; exact Below.refl _ _)⟩)
  have CAS : Hid (∀ w', Below W5.heap.size W5 w' → Calls Try.prog 43 #[.string ts] w' fun e w'' => e = .returned (.bool BA) ∧ Below w'.heap.size w' w'') := by rw [hBA]; exact fun w' k => (specAcct ts w' HTS.out).mono (fun e w'' h => ⟨h.1, by first | exact h.2 | (rw [h.2]; exact Below.refl _ _)⟩)
  have CPP : Hid (∀ w', Below W5.heap.size W5 w' → Calls Try.prog 38 #[.agg #[.int .i64 id1, .slice (some ⟨g1, 0, none⟩) n1 c1], .agg #[.int .i64 id1, .slice (some ⟨g1, 0, none⟩) n1 c1]] w' fun e w'' => e = .returned (.bool true) ∧ Below w'.heap.size w' w'') := by
    have := bp_self id1 L1
    rw [← this]
    exact fun w' k => implSame _ _ _ _ _ _ _ _ L1 L1 w' (E1.out.keep k) (E1.out.keep k)
  have COK : Hid (∀ w', Below W5.heap.size W5 w' → Calls Try.prog 44 #[.agg #[.int .i64 id1, .slice (some ⟨g1, 0, none⟩) n1 c1]] w' fun e w'' => e = .returned (.bool O) ∧ Below w'.heap.size w' w'') := by rw [hOk]; exact fun w' k => implPostOk id1 _ _ _ L1 w' (E1.out.keep k)
  have HOK : Hid (O = postB id1 L1) := hOk
  clear hB hOk hBL hBA
  have k0 : Below W5.heap.size W5 W5.drew := (Below.refl _ W5).drew
  have HMK : Hid (∀ w', Below W5.heap.size W5 w' → (w'.cell? ⟨X3, 0, none⟩ = some (.int .i64 id1) ∧ w'.cell? ⟨X3, 1, none⟩ = some (.slice (some ⟨g1, 0, none⟩) n1 c1) ∧ X3 < w'.heap.size ∧ w'.cell? ⟨X4, 0, none⟩ = some (.int .i64 id2) ∧ w'.cell? ⟨X4, 1, none⟩ = some (.slice (some ⟨g2, 0, none⟩) n2 c2) ∧ X4 < w'.heap.size ∧ w'.cell? ⟨X5, 0, none⟩ = some (.string ls) ∧ w'.cell? ⟨X5, 1, none⟩ = some (.int .i64 lc) ∧ w'.cell? ⟨X5, 2, none⟩ = some (.int .i64 ln) ∧ X5 < w'.heap.size)) := fun w' kk => ⟨cell_later kk x0, cell_later kk x1, World.block_lt_of_cell? _ _ (cell_later kk x0), cell_later kk u0, cell_later kk u1, World.block_lt_of_cell? _ _ (cell_later kk u0), cell_later kk r0, cell_later kk r1, cell_later kk r2, World.block_lt_of_cell? _ _ (cell_later kk r0)⟩
  go_wp2_with fail
  refine wp_region_held_drew (S := (fun w' => w'.cell? ⟨X3, 0, none⟩ = some (.int .i64 id1) ∧ w'.cell? ⟨X3, 1, none⟩ = some (.slice (some ⟨g1, 0, none⟩) n1 c1) ∧ X3 < w'.heap.size ∧ w'.cell? ⟨X4, 0, none⟩ = some (.int .i64 id2) ∧ w'.cell? ⟨X4, 1, none⟩ = some (.slice (some ⟨g2, 0, none⟩) n2 c2) ∧ X4 < w'.heap.size ∧ w'.cell? ⟨X5, 0, none⟩ = some (.string ls) ∧ w'.cell? ⟨X5, 1, none⟩ = some (.int .i64 lc) ∧ w'.cell? ⟨X5, 2, none⟩ = some (.int .i64 ln) ∧ X5 < w'.heap.size)) (by kernel_rfl) (HMK.out _ k0) (fun hHeld => ?_)
  refine wpAnyH_takeL (i := 0) (v := ?_) rfl (by kernel_rfl) (by kernel_rfl) (by kernel_rfl) (fun _ _ _ h => h) (Or.inl ⟨by rfl, ?_⟩) hHeld ?_
  rotate_left
  · (intro w hSw; (try dsimp only at hSw); go_simp; try with_reducible rfl)
  try go_frame
  refine wpAnyH_takeL (i := 1) (v := ?_) rfl (by kernel_rfl) (by kernel_rfl) (by kernel_rfl) (fun _ _ _ h => h) (Or.inl ⟨by rfl, ?_⟩) hHeld ?_
  rotate_left
  · (intro w hSw; (try dsimp only at hSw); go_simp; try with_reducible rfl)
  try go_frame
  refine wpAnyH_takeL (i := 3) (v := ?_) rfl (by kernel_rfl) (by kernel_rfl) (by kernel_rfl) (fun _ _ _ h => h) (Or.inl ⟨by rfl, ?_⟩) hHeld ?_
  rotate_left
  · (intro w hSw; (try dsimp only at hSw); go_simp; try with_reducible rfl)
  try go_frame
  refine wpAnyH_takeL (i := 4) (v := ?_) rfl (by kernel_rfl) (by kernel_rfl) (by kernel_rfl) (fun _ _ _ h => h) (Or.inl ⟨by rfl, ?_⟩) hHeld ?_
  rotate_left
  · (intro w hSw; (try dsimp only at hSw); go_simp; try with_reducible rfl)
  try go_frame
  refine wpAnyH_ready (rs := [2]) (by kernel_rfl) (by simp) ?_
  refine consL rfl (fun K hK => ?_) AllReadyH.nil
  go_simp
  refine (CI.out _ k0).mono ?_
  rintro e wk1 ⟨rfl, bk1⟩
  have k1 : Below W5.heap.size W5 wk1 := k0.trans (bk1.mono k0.size)
  go_wp2_with fail
  refine hK.out _ _ (HMK.out _ k1) (fun hHeld => ?_)
  clear hK K
  try go_frame
  refine wpAnyH_ready (rs := [5]) (by kernel_rfl) (by simp) ?_
  refine consL rfl (fun K hK => ?_) AllReadyH.nil
  go_simp
  refine (CS.out _ k1).mono ?_
  rintro e wk2 ⟨rfl, bk2⟩
  have k2 : Below W5.heap.size W5 wk2 := k1.trans (bk2.mono k1.size)
  go_wp2_with fail
  refine hK.out _ _ (HMK.out _ k2) (fun hHeld => ?_)
  clear hK K
  try go_frame
  refine wpAnyH_takeL (i := 6) (v := ?_) rfl (by kernel_rfl) (by kernel_rfl) (by kernel_rfl) (fun _ _ _ h => h) (Or.inl ⟨by rfl, ?_⟩) hHeld ?_
  rotate_left
  · (intro w hSw; (try dsimp only at hSw); go_simp; try with_reducible rfl)
  try go_frame
  refine wpAnyH_takeL (i := 7) (v := ?_) rfl (by kernel_rfl) (by kernel_rfl) (by kernel_rfl) (fun _ _ _ h => h) (Or.inl ⟨by rfl, ?_⟩) hHeld ?_
  rotate_left
  · (intro w hSw; (try dsimp only at hSw); go_simp; try with_reducible rfl)
  try go_frame
  refine wpAnyH_takeL (i := 8) (v := ?_) rfl (by kernel_rfl) (by kernel_rfl) (by kernel_rfl) (fun _ _ _ h => h) (Or.inl ⟨by rfl, ?_⟩) hHeld ?_
  rotate_left
  · (intro w hSw; (try dsimp only at hSw); go_simp; try with_reducible rfl)
  try go_frame
  refine wpAnyH_takeL (i := 9) (v := ?_) rfl (by kernel_rfl) (by kernel_rfl) (by kernel_rfl) (fun _ _ _ h => h) (Or.inl ⟨by rfl, ?_⟩) hHeld ?_
  rotate_left
  · (intro w hSw; (try dsimp only at hSw); go_simp; try with_reducible rfl)
  try go_frame
  refine wpAnyH_takeL (i := 11) (v := ?_) rfl (by kernel_rfl) (by kernel_rfl) (by kernel_rfl) (fun _ _ _ h => h) (Or.inl ⟨by rfl, ?_⟩) hHeld ?_
  rotate_left
  · (intro w hSw; (try dsimp only at hSw); go_simp; try with_reducible rfl)
  try go_frame
  refine wpAnyH_takeL (i := 12) (v := ?_) rfl (by kernel_rfl) (by kernel_rfl) (by kernel_rfl) (fun _ _ _ h => h) (Or.inl ⟨by rfl, ?_⟩) hHeld ?_
  rotate_left
  · (intro w hSw; (try dsimp only at hSw); go_simp; try with_reducible rfl)
  try go_frame
  refine wpAnyH_ready (rs := [10]) (by kernel_rfl) (by simp) ?_
  refine consL rfl (fun K hK => ?_) AllReadyH.nil
  go_simp
  refine (CI.out _ k2).mono ?_
  rintro e wk3 ⟨rfl, bk3⟩
  have k3 : Below W5.heap.size W5 wk3 := k2.trans (bk3.mono k2.size)
  go_wp2_with fail
  refine hK.out _ _ (HMK.out _ k3) (fun hHeld => ?_)
  clear hK K
  try go_frame
  refine wpAnyH_ready (rs := [13]) (by kernel_rfl) (by simp) ?_
  refine consL rfl (fun K hK => ?_) AllReadyH.nil
  go_simp
  refine (CR.out _ k3).mono ?_
  rintro e wk4 ⟨rfl, bk4⟩
  have k4 : Below W5.heap.size W5 wk4 := k3.trans (bk4.mono k3.size)
  go_wp2_with fail
  refine hK.out _ _ (HMK.out _ k4) (fun hHeld => ?_)
  clear hK K
  try go_frame
  refine wpAnyH_takeL (i := 14) (v := ?_) rfl (by kernel_rfl) (by kernel_rfl) (by kernel_rfl) (fun _ _ _ h => h) (Or.inl ⟨by rfl, ?_⟩) hHeld ?_
  rotate_left
  · (intro w hSw; (try dsimp only at hSw); go_simp; try with_reducible rfl)
  try go_frame
  refine wpAnyH_takeL (i := 15) (v := ?_) rfl (by kernel_rfl) (by kernel_rfl) (by kernel_rfl) (fun _ _ _ h => h) (Or.inl ⟨by rfl, ?_⟩) hHeld ?_
  rotate_left
  · (intro w hSw; (try dsimp only at hSw); go_simp; try with_reducible rfl)
  try go_frame
  refine wpAnyH_takeL (i := 16) (v := ?_) rfl (by kernel_rfl) (by kernel_rfl) (by kernel_rfl) (fun _ _ _ h => h) (Or.inl ⟨by rfl, ?_⟩) hHeld ?_
  rotate_left
  · (intro w hSw; (try dsimp only at hSw); go_simp; try with_reducible rfl)
  try go_frame
  refine wpAnyH_takeL (i := 17) (v := ?_) rfl (by kernel_rfl) (by kernel_rfl) (by kernel_rfl) (fun _ _ _ h => h) (Or.inl ⟨by rfl, ?_⟩) hHeld ?_
  rotate_left
  · (intro w hSw; (try dsimp only at hSw); go_simp; try with_reducible rfl)
  try go_frame
  refine wpAnyH_takeL (i := 19) (v := ?_) rfl (by kernel_rfl) (by kernel_rfl) (by kernel_rfl) (fun _ _ _ h => h) (Or.inl ⟨by rfl, ?_⟩) hHeld ?_
  rotate_left
  · (intro w hSw; (try dsimp only at hSw); go_simp; try with_reducible rfl)
  try go_frame
  refine wpAnyH_ready (rs := [18]) (by kernel_rfl) (by simp) ?_
  refine consL rfl (fun K hK => ?_) AllReadyH.nil
  go_simp
  refine (CLI.out _ k4).mono ?_
  rintro e wk5 ⟨rfl, bk5⟩
  have k5 : Below W5.heap.size W5 wk5 := k4.trans (bk5.mono k4.size)
  go_wp2_with fail
  refine hK.out _ _ (HMK.out _ k5) (fun hHeld => ?_)
  clear hK K
  try go_frame
  refine wpAnyH_ready (rs := [20]) (by kernel_rfl) (by simp) ?_
  refine consL rfl (fun K hK => ?_) AllReadyH.nil
  go_simp
  refine (CLS.out _ k5).mono ?_
  rintro e wk6 ⟨rfl, bk6⟩
  have k6 : Below W5.heap.size W5 wk6 := k5.trans (bk6.mono k5.size)
  go_wp2_with fail
  refine hK.out _ _ (HMK.out _ k6) (fun hHeld => ?_)
  clear hK K
  try go_frame
  refine wpAnyH_takeL (i := 21) (v := ?_) rfl (by kernel_rfl) (by kernel_rfl) (by kernel_rfl) (fun _ _ _ h => h) (Or.inl ⟨by rfl, ?_⟩) hHeld ?_
  rotate_left
  · (intro w hSw; (try dsimp only at hSw); go_simp; try with_reducible rfl)
  try go_frame
  refine wpAnyH_takeL (i := 22) (v := ?_) rfl (by kernel_rfl) (by kernel_rfl) (by kernel_rfl) (fun _ _ _ h => h) (Or.inl ⟨by rfl, ?_⟩) hHeld ?_
  rotate_left
  · (intro w hSw; (try dsimp only at hSw); go_simp; try with_reducible rfl)
  try go_frame
  refine wpAnyH_takeL (i := 23) (v := ?_) rfl (by kernel_rfl) (by kernel_rfl) (by kernel_rfl) (fun _ _ _ h => h) (Or.inl ⟨by rfl, ?_⟩) hHeld ?_
  rotate_left
  · (intro w hSw; (try dsimp only at hSw); go_simp; try with_reducible rfl)
  try go_frame
  refine wpAnyH_takeL (i := 24) (v := ?_) rfl (by kernel_rfl) (by kernel_rfl) (by kernel_rfl) (fun _ _ _ h => h) (Or.inl ⟨by rfl, ?_⟩) hHeld ?_
  rotate_left
  · (intro w hSw; (try dsimp only at hSw); go_simp; try with_reducible rfl)
  try go_frame
  refine wpAnyH_takeL (i := 26) (v := ?_) rfl (by kernel_rfl) (by kernel_rfl) (by kernel_rfl) (fun _ _ _ h => h) (Or.inl ⟨by rfl, ?_⟩) hHeld ?_
  rotate_left
  · (intro w hSw; (try dsimp only at hSw); go_simp; try with_reducible rfl)
  try go_frame
  refine wpAnyH_ready (rs := [25]) (by kernel_rfl) (by simp) ?_
  refine consL rfl (fun K hK => ?_) AllReadyH.nil
  go_simp
  refine (CAI.out _ k6).mono ?_
  rintro e wk7 ⟨rfl, bk7⟩
  have k7 : Below W5.heap.size W5 wk7 := k6.trans (bk7.mono k6.size)
  go_wp2_with fail
  refine hK.out _ _ (HMK.out _ k7) (fun hHeld => ?_)
  clear hK K
  try go_frame
  refine wpAnyH_ready (rs := [27]) (by kernel_rfl) (by simp) ?_
  refine consL rfl (fun K hK => ?_) AllReadyH.nil
  go_simp
  refine (CAS.out _ k7).mono ?_
  rintro e wk8 ⟨rfl, bk8⟩
  have k8 : Below W5.heap.size W5 wk8 := k7.trans (bk8.mono k7.size)
  go_wp2_with fail
  refine hK.out _ _ (HMK.out _ k8) (fun hHeld => ?_)
  clear hK K
  try go_frame
  refine wpAnyH_takeL (i := 28) (v := ?_) rfl (by kernel_rfl) (by kernel_rfl) (by kernel_rfl) (fun _ _ _ h => h) (Or.inl ⟨by rfl, ?_⟩) hHeld ?_
  rotate_left
  · (intro w hSw; (try dsimp only at hSw); go_simp; try with_reducible rfl)
  try go_frame
  refine wpAnyH_takeL (i := 29) (v := ?_) rfl (by kernel_rfl) (by kernel_rfl) (by kernel_rfl) (fun _ _ _ h => h) (Or.inl ⟨by rfl, ?_⟩) hHeld ?_
  rotate_left
  · (intro w hSw; (try dsimp only at hSw); go_simp; try with_reducible rfl)
  try go_frame
  refine wpAnyH_takeL (i := 30) (v := ?_) rfl (by kernel_rfl) (by kernel_rfl) (by kernel_rfl) (fun _ _ _ h => h) (Or.inl ⟨by rfl, ?_⟩) hHeld ?_
  rotate_left
  · (intro w hSw; (try dsimp only at hSw); go_simp; try with_reducible rfl)
  try go_frame
  refine wpAnyH_takeL (i := 31) (v := ?_) rfl (by kernel_rfl) (by kernel_rfl) (by kernel_rfl) (fun _ _ _ h => h) (Or.inl ⟨by rfl, ?_⟩) hHeld ?_
  rotate_left
  · (intro w hSw; (try dsimp only at hSw); go_simp; try with_reducible rfl)
  try go_frame
  refine wpAnyH_takeL (i := 32) (v := ?_) rfl (by kernel_rfl) (by kernel_rfl) (by kernel_rfl) (fun _ _ _ h => h) (Or.inl ⟨by rfl, ?_⟩) hHeld ?_
  rotate_left
  · (intro w hSw; (try dsimp only at hSw); go_simp; try with_reducible rfl)
  try go_frame
  refine wpAnyH_ready (rs := [33]) (by kernel_rfl) (by simp) ?_
  refine consL rfl (fun K hK => ?_) AllReadyH.nil
  go_simp
  refine (CPP.out _ k8).mono ?_
  rintro e wk9 ⟨rfl, bk9⟩
  have k9 : Below W5.heap.size W5 wk9 := k8.trans (bk9.mono k8.size)
  go_wp2_with fail
  refine hK.out _ _ (HMK.out _ k9) (fun hHeld => ?_)
  clear hK K
  try go_frame
  refine wpAnyH_takeL (i := 34) (v := ?_) rfl (by kernel_rfl) (by kernel_rfl) (by kernel_rfl) (fun _ _ _ h => h) (Or.inl ⟨by rfl, ?_⟩) hHeld ?_
  rotate_left
  · (intro w hSw; (try dsimp only at hSw); go_simp; try with_reducible rfl)
  try go_frame
  refine wpAnyH_takeL (i := 35) (v := ?_) rfl (by kernel_rfl) (by kernel_rfl) (by kernel_rfl) (fun _ _ _ h => h) (Or.inl ⟨by rfl, ?_⟩) hHeld ?_
  rotate_left
  · (intro w hSw; (try dsimp only at hSw); go_simp; try with_reducible rfl)
  try go_frame
  refine wpAnyH_done (by kernel_rfl) ?_ _
  have x0 := cell_later k9 x0
  have x1 := cell_later k9 x1
  have zr := World.block_lt_of_cell? _ _ x0
  simp only at zr
  have K9 : Hid (Below W5.heap.size W5 wk9) := k9
  clear k0 k1 k2 k3 k4 k5 k6 k7 k8 k9 bk1 bk2 bk3 bk4 bk5 bk6 bk7 bk8 bk9 HMK hHeld u0 u1 r0 r1 r2 CI CS CR CLI CLS CAI CAS CPP
  go_wp2_with fail
  refine (COK.out _ K9.out).mono ?_
  rintro e w6 ⟨rfl, hb6⟩
  have K6 : Hid (Below W5.heap.size W5 w6) := K9.out.trans (hb6.mono K9.out.size)
  have x0 := cell_later hb6 x0
  have x1 := cell_later hb6 x1
  have zr := World.block_lt_of_cell? _ _ x0
  simp only at zr
  clear hb6 K9
  cases hO : O with
  | false =>
    go_wp2
    go_ret
    exact ⟨rfl, K5.out.trans (K6.out.mono K5.out.size)⟩
  | true =>
    have HR : Hid (postB id1 L1 = true) := by rw [← HOK.out]; exact hO
    obtain ⟨h1, h2, h3, h4⟩ := bp_parts HR.out
    have HLN : Hid (L1.length = n1) := E1.out.length
    have HLW : Hid (∀ l ∈ L1, LegW l) := E1.out.legs
    have HI : Hid (id1 ≤ 99) := h2
    have hnp : 1 ≤ n1 := by rw [← HLN.out]; exact h3
    have hn4 : n1 ≤ 4 := by rw [← HLN.out]; exact h4
    clear h1 h2 h3 h4 hO HOK hn1 hn2
    have E6 : Hid (LegsAt w6 (some ⟨g1, 0, none⟩) n1 c1 L1) := E1.out.keep K6.out
    have KK : Hid (Below w.heap.size w w6) := K5.out.trans (K6.out.mono K5.out.size)
    clear E1 E2 K6 K5 COK
    obtain ⟨X7, hX7⟩ : ∃ X7, X7 = w6.heap.size := ⟨_, rfl⟩
    obtain ⟨X8, hX8⟩ : ∃ X8, X8 = w6.heap.size + 1 := ⟨_, rfl⟩
    obtain ⟨W, hW⟩ : ∃ W, W = (w6.alloc (.cells #[.int .i64 id1, .slice none 0 0] 65)).alloc (.cells #[.int .i64 100, .slice (some ⟨g1, 0, none⟩) n1 c1] 65) := ⟨_, rfl⟩
    have kW : Below w6.heap.size w6 W := by rw [hW]; exact ((Below.refl _ _).alloc (Nat.le_refl _) _).alloc (by simp) _
    have p0 : W.cell? ⟨X7, 0, none⟩ = some (.int .i64 id1) := by rw [hW, hX7]; simp
    have p1 : W.cell? ⟨X7, 1, none⟩ = some (.slice none 0 0) := by rw [hW, hX7]; simp
    have q0 : W.cell? ⟨X8, 0, none⟩ = some (.int .i64 100) := by rw [hW, hX8]; simp
    have q1 : W.cell? ⟨X8, 1, none⟩ = some (.slice (some ⟨g1, 0, none⟩) n1 c1) := by rw [hW, hX8]; simp
    have d0 := cell_later kW x0
    have d1 := cell_later kW x1
    have E1 : Hid (LegsAt W (some ⟨g1, 0, none⟩) n1 c1 L1) := E6.out.keep kW
    have KW : Hid (Below w.heap.size w W) := KK.out.trans (kW.mono KK.out.size)
    obtain ⟨i0, hi, hz0, hz1, hz2⟩ := info_parts Try.infoLeg
    have k0 : Below W.heap.size W W.drew := (Below.refl _ W).drew
    have HMK : Hid (∀ w', Below W.heap.size W w' → (w'.cell? ⟨X3, 0, none⟩ = some (.int .i64 id1) ∧ w'.cell? ⟨X3, 1, none⟩ = some (.slice (some ⟨g1, 0, none⟩) n1 c1) ∧ X3 < w'.heap.size)) := fun w' kk => ⟨cell_later kk d0, cell_later kk d1, World.block_lt_of_cell? _ _ (cell_later kk d0)⟩
    go_upto_region 12 with fail
    rw [← hX8, ← hX7, ← hW]
    clear hX7 hX8 hW kW x0 x1 zr E6 KK
    go_cut [9] (fun s9 wx => ∃ (XC gC cC : Nat), s9 = .pointer (some ⟨XC, 0, none⟩) ∧ BoxH wx XC (.int .i64 id1) (.slice (some ⟨gC, 0, none⟩) (n1 + 1) cC) ∧ DrawnAt wx W.heap.size gC (n1 + 1) cC (L1 ++ [legZ]) ∧ W.heap.size ≤ XC ∧ Below W.heap.size W wx)
    case first =>
      refine wp_region_held_drew (S := (fun w' => w'.cell? ⟨X3, 0, none⟩ = some (.int .i64 id1) ∧ w'.cell? ⟨X3, 1, none⟩ = some (.slice (some ⟨g1, 0, none⟩) n1 c1) ∧ X3 < w'.heap.size)) (by kernel_rfl) (HMK.out _ k0) (fun hHeld => ?_)
      generalize W.drew = wd at k0 hHeld ⊢
      refine wpAnyH_takeL (i := 0) (v := ?_) rfl (by kernel_rfl) (by kernel_rfl) (by kernel_rfl) (fun _ _ _ h => h) (Or.inl ⟨by rfl, ?_⟩) hHeld ?_
      rotate_left
      · (intro w hSw; (try dsimp only at hSw); go_simp; try with_reducible rfl)
      try go_frame
      refine wpAnyH_takeL (i := 1) (v := ?_) rfl (by kernel_rfl) (by kernel_rfl) (by kernel_rfl) (fun _ _ _ h => h) (Or.inl ⟨by rfl, ?_⟩) hHeld ?_
      rotate_left
      · (intro w hSw; (try dsimp only at hSw); go_simp; try with_reducible rfl)
      try go_frame
      refine wpAnyH_takeL (i := 3) (v := ?_) rfl (by kernel_rfl) (by kernel_rfl) (by kernel_rfl) (fun _ _ _ h => h) (Or.inl ⟨by rfl, ?_⟩) hHeld ?_
      rotate_left
      · (intro w hSw; (try dsimp only at hSw); go_simp; try with_reducible rfl)
      try go_frame
      refine wpAnyH_takeL (i := 4) (v := ?_) rfl (by kernel_rfl) (by kernel_rfl) (by kernel_rfl) (fun _ _ _ h => h) (Or.inl ⟨by rfl, ?_⟩) hHeld ?_
      rotate_left
      · (intro w hSw; (try dsimp only at hSw); go_simp; try with_reducible rfl)
      try go_frame
      refine wpAnyH_takeL (i := 6) (v := ?_) rfl (by kernel_rfl) (by kernel_rfl) (by kernel_rfl) (fun _ _ _ h => h) (Or.inl ⟨by rfl, ?_⟩) hHeld ?_
      rotate_left
      · (intro w hSw; (try dsimp only at hSw); go_simp; try with_reducible rfl)
      try go_frame
      refine wpAnyH_ready (rs := [2, 7, 10]) (by kernel_rfl) (by simp) ?_
      refine consL rfl (fun K hK => ?_) (consL rfl (fun K hK => ?_) (consL rfl (fun K hK => ?_) AllReadyH.nil))
      · go_simp
        have bn : Below wd.heap.size wd (wd.alloc (.cells #[] 69)) := (Below.refl _ _).alloc (Nat.le_refl _) _
        have rA := drawn_empty wd W.heap.size k0.size
        have k0a : Below W.heap.size W (wd.alloc (.cells #[] 69)) := k0.trans (bn.mono k0.size)
        generalize wd.alloc (.cells #[] 69) = wA at rA k0a bn  ⊢
        generalize wd.heap.size = gA at rA  ⊢
        clear bn
        refine hK.out _ _ (HMK.out _ k0a) (fun hHeld => ?_)
        clear hK K
        try go_frame
        refine wpAnyH_ready (rs := [5, 7, 10]) (by kernel_rfl) (by simp) ?_
        refine consL rfl (fun K hK => ?_) (consL rfl (fun K hK => ?_) (consL rfl (fun K hK => ?_) AllReadyH.nil))
        · refine step_append_own rfl (.tmp 70) (.tmp 72) 63 rfl W.heap.size 69 i0 _ 3 32 Try.underlying63 hi hz0 hz1 hz2 rfl (Nat.succ_pos 2) _ _ _ rfl rA.owns ⟨g1, 0, none⟩ n1 c1 (flat L1) rfl ?_ ?_ (flat_one _) ?_ ?_ ?_ ?_
          · rw [flat_len]; first | (rw [HLN.out]) | rfl
          · exact legs_news (E1.out.keep k0a)
          · unfold maxLen; omega
          · omega
          · exact k0a.size
          intro v' wB hown hgrow hnil
          rw [Nat.zero_add] at hown
          obtain ⟨gB, cB, rfl⟩ := row_form hown (fun e => by have := (hnil.1 e).2; omega)
          have rB : DrawnAt wB W.heap.size gB n1 cB L1 := ⟨by simpa [flat] using hown, HLN.out, HLW.out, HLF.out⟩
          have k0ab : Below W.heap.size W wB := k0a.grown hgrow k0a.size (fun j e => by rw [own_G e]; exact rA.lt.1)
          clear hown hgrow hnil rA
          refine hK.out _ _ (HMK.out _ k0ab) (fun hHeld => ?_)
          clear hK K
          try go_frame
          refine wpAnyH_ready (rs := [7, 10]) (by kernel_rfl) (by simp) ?_
          refine consL rfl (fun K hK => ?_) (consL rfl (fun K hK => ?_) AllReadyH.nil)
          · go_simp
            have lB := rB.lt.2
            have bn : Below wB.heap.size wB (wB.alloc (.cells #[.string ⟨#[97]⟩, .int .i64 1, .int .i64 0] 69)) := (Below.refl _ _).alloc (Nat.le_refl _) _
            have rN := drawn_one wB W.heap.size k0ab.size
            have k0abn : Below W.heap.size W (wB.alloc (.cells #[.string ⟨#[97]⟩, .int .i64 1, .int .i64 0] 69)) := k0ab.trans (bn.mono k0ab.size)
            have rB := rB.below bn
            have nBN : gB ≠ wB.heap.size := by omega
            clear lB
            generalize wB.alloc (.cells #[.string ⟨#[97]⟩, .int .i64 1, .int .i64 0] 69) = wN at rN k0abn bn rB ⊢
            generalize wB.heap.size = gN at rN nBN ⊢
            clear bn
            refine hK.out _ _ (HMK.out _ k0abn) (fun hHeld => ?_)
            clear hK K
            try go_frame
            refine wpAnyH_ready (rs := [8, 10]) (by kernel_rfl) (by simp) ?_
            refine consL rfl (fun K hK => ?_) (consL rfl (fun K hK => ?_) AllReadyH.nil)
            · refine step_append_own rfl (.tmp 73) (.tmp 75) 63 rfl W.heap.size 69 i0 _ 3 32 Try.underlying63 hi hz0 hz1 hz2 rfl (Nat.succ_pos 2) _ _ _ rfl rB.owns ⟨gN, 0, none⟩ 1 1 (flat [legZ]) rfl ?_ ?_ (flat_one _) ?_ ?_ ?_ ?_
              · rw [flat_len]; first | (rw [HLN.out]) | rfl
              · exact legs_news rN.legsAt
              · unfold maxLen; omega
              · omega
              · exact k0abn.size
              intro v' wC hown2 hgrow2 hnil2
              obtain ⟨gC, cC, rfl⟩ := row_form hown2 (fun e => by have := (hnil2.1 e).2; omega)
              have rC : DrawnAt wC W.heap.size gC (n1 + 1) cC (L1 ++ [legZ]) := ⟨by rw [flat_append]; exact hown2, by simp [HLN.out], fun e he => by rcases List.mem_append.1 he with h | h; exact HLW.out e h; exact rN.legs e h, fun e he => by rcases List.mem_append.1 he with h | h; exact HLF.out e h; exact rN.accts e h⟩
              have k0abnc : Below W.heap.size W wC := k0abn.grown hgrow2 k0abn.size (fun j e => by rw [own_G e]; exact rB.lt.1)
              clear hown2 hgrow2 hnil2 rB rN
              refine hK.out _ _ (HMK.out _ k0abnc) (fun hHeld => ?_)
              clear hK K
              try go_frame
              refine wpAnyH_takeL (i := 9) (v := ?_) rfl (by kernel_rfl) (by kernel_rfl) (by kernel_rfl) (fun _ _ _ h => h) (Or.inl ⟨by rfl, ?_⟩) hHeld ?_
              rotate_left
              · (intro w hSw; (try dsimp only at hSw); go_simp; try with_reducible rfl)
              try go_frame
              refine wpAnyH_ready (rs := [10]) (by kernel_rfl) (by simp) ?_
              refine consL rfl (fun K hK => ?_) AllReadyH.nil
              go_simp
              have bn : Below wC.heap.size wC (wC.alloc (.cells #[.int .i64 0, .slice none 0 0] 65)) := (Below.refl _ _).alloc (Nat.le_refl _) _
              have hp := BoxH.new wC (.int .i64 0) (.slice none 0 0); have hPw := k0abnc.size
              have k0abncp : Below W.heap.size W (wC.alloc (.cells #[.int .i64 0, .slice none 0 0] 65)) := k0abnc.trans (bn.mono k0abnc.size)
              have rC := rC.below bn
              generalize wC.alloc (.cells #[.int .i64 0, .slice none 0 0] 65) = wP at hp k0abncp bn rC ⊢
              generalize wC.heap.size = XC at hp hPw ⊢
              clear bn
              refine hK.out _ _ (HMK.out _ k0abncp) (fun hHeld => ?_)
              clear hK K
              try go_frame
              refine wpAnyH_ready (rs := [11]) (by kernel_rfl) (by simp) ?_
              refine consL rfl (fun K hK => ?_) AllReadyH.nil
              have s0 := hp.box.c0
              have s1 := hp.box.c1
              have t0 := hp.box.f0
              have t1 := hp.box.f1
              have zp := hp.lt
              go_simp
              have kz := (k0abncp.setCell (p := ⟨XC, 0, none⟩) hPw (.int .i64 id1)).setCell (p := ⟨XC, 1, none⟩) hPw (.slice (some ⟨gC, 0, none⟩) (n1 + 1) cC)
              have hq := (hp.set0 (.int .i64 id1)).set1 (.slice (some ⟨gC, 0, none⟩) (n1 + 1) cC)
              have rD := (rC.setCell (p := ⟨XC, 0, none⟩) (hp.ne_row rC) (.int .i64 id1)).setCell (p := ⟨XC, 1, none⟩) (hp.ne_row rC) (.slice (some ⟨gC, 0, none⟩) (n1 + 1) cC)
              clear s0 s1 t0 t1 zp
              refine hK.out _ _ (HMK.out _ kz) (fun hHeld => ?_)
              clear hK K
              try go_frame
              refine wpAnyH_done (by kernel_rfl) ?_ _
              go_wp2
              go_meet
              exact ⟨XC, gC, cC, rfl, hq, rD, hPw, kz⟩
            · go_simp
              have lB := rB.lt.2
              have lN := rN.lt.2
              have bn : Below wN.heap.size wN (wN.alloc (.cells #[.int .i64 0, .slice none 0 0] 65)) := (Below.refl _ _).alloc (Nat.le_refl _) _
              have hp := BoxH.new wN (.int .i64 0) (.slice none 0 0); have hPw := k0abn.size
              have k0abnp : Below W.heap.size W (wN.alloc (.cells #[.int .i64 0, .slice none 0 0] 65)) := k0abn.trans (bn.mono k0abn.size)
              have rB := rB.below bn
              have rN := rN.below bn
              clear lB lN
              generalize wN.alloc (.cells #[.int .i64 0, .slice none 0 0] 65) = wP at hp k0abnp bn rB rN ⊢
              generalize wN.heap.size = XC at hp hPw ⊢
              clear bn
              refine hK.out _ _ (HMK.out _ k0abnp) (fun hHeld => ?_)
              clear hK K
              try go_frame
              refine wpAnyH_ready (rs := [8]) (by kernel_rfl) (by simp) ?_
              refine consL rfl (fun K hK => ?_) AllReadyH.nil
              refine step_append_own rfl (.tmp 73) (.tmp 75) 63 rfl W.heap.size 69 i0 _ 3 32 Try.underlying63 hi hz0 hz1 hz2 rfl (Nat.succ_pos 2) _ _ _ rfl rB.owns ⟨gN, 0, none⟩ 1 1 (flat [legZ]) rfl ?_ ?_ (flat_one _) ?_ ?_ ?_ ?_
              · rw [flat_len]; first | (rw [HLN.out]) | rfl
              · exact legs_news rN.legsAt
              · unfold maxLen; omega
              · omega
              · exact k0abnp.size
              intro v' wC hown2 hgrow2 hnil2
              obtain ⟨gC, cC, rfl⟩ := row_form hown2 (fun e => by have := (hnil2.1 e).2; omega)
              have rC : DrawnAt wC W.heap.size gC (n1 + 1) cC (L1 ++ [legZ]) := ⟨by rw [flat_append]; exact hown2, by simp [HLN.out], fun e he => by rcases List.mem_append.1 he with h | h; exact HLW.out e h; exact rN.legs e h, fun e he => by rcases List.mem_append.1 he with h | h; exact HLF.out e h; exact rN.accts e h⟩
              have k0abnpc : Below W.heap.size W wC := k0abnp.grown hgrow2 k0abnp.size (fun j e => by rw [own_G e]; exact rB.lt.1)
              have hp := hp.grown hgrow2 (fun e => hp.ne_row rB (own_G e.symm))
              clear hown2 hgrow2 hnil2 rB rN
              refine hK.out _ _ (HMK.out _ k0abnpc) (fun hHeld => ?_)
              clear hK K
              try go_frame
              refine wpAnyH_takeL (i := 9) (v := ?_) rfl (by kernel_rfl) (by kernel_rfl) (by kernel_rfl) (fun _ _ _ h => h) (Or.inl ⟨by rfl, ?_⟩) hHeld ?_
              rotate_left
              · (intro w hSw; (try dsimp only at hSw); go_simp; try with_reducible rfl)
              try go_frame
              refine wpAnyH_ready (rs := [11]) (by kernel_rfl) (by simp) ?_
              refine consL rfl (fun K hK => ?_) AllReadyH.nil
              have s0 := hp.box.c0
              have s1 := hp.box.c1
              have t0 := hp.box.f0
              have t1 := hp.box.f1
              have zp := hp.lt
              go_simp
              have kz := (k0abnpc.setCell (p := ⟨XC, 0, none⟩) hPw (.int .i64 id1)).setCell (p := ⟨XC, 1, none⟩) hPw (.slice (some ⟨gC, 0, none⟩) (n1 + 1) cC)
              have hq := (hp.set0 (.int .i64 id1)).set1 (.slice (some ⟨gC, 0, none⟩) (n1 + 1) cC)
              have rD := (rC.setCell (p := ⟨XC, 0, none⟩) (hp.ne_row rC) (.int .i64 id1)).setCell (p := ⟨XC, 1, none⟩) (hp.ne_row rC) (.slice (some ⟨gC, 0, none⟩) (n1 + 1) cC)
              clear s0 s1 t0 t1 zp
              refine hK.out _ _ (HMK.out _ kz) (fun hHeld => ?_)
              clear hK K
              try go_frame
              refine wpAnyH_done (by kernel_rfl) ?_ _
              go_wp2
              go_meet
              exact ⟨XC, gC, cC, rfl, hq, rD, hPw, kz⟩
          · go_simp
            have lB := rB.lt.2
            have bn : Below wB.heap.size wB (wB.alloc (.cells #[.int .i64 0, .slice none 0 0] 65)) := (Below.refl _ _).alloc (Nat.le_refl _) _
            have hp := BoxH.new wB (.int .i64 0) (.slice none 0 0); have hPw := k0ab.size
            have k0abp : Below W.heap.size W (wB.alloc (.cells #[.int .i64 0, .slice none 0 0] 65)) := k0ab.trans (bn.mono k0ab.size)
            have rB := rB.below bn
            clear lB
            generalize wB.alloc (.cells #[.int .i64 0, .slice none 0 0] 65) = wP at hp k0abp bn rB ⊢
            generalize wB.heap.size = XC at hp hPw ⊢
            clear bn
            refine hK.out _ _ (HMK.out _ k0abp) (fun hHeld => ?_)
            clear hK K
            try go_frame
            refine wpAnyH_ready (rs := [7]) (by kernel_rfl) (by simp) ?_
            refine consL rfl (fun K hK => ?_) AllReadyH.nil
            go_simp
            have lB := rB.lt.2
            have bn : Below wP.heap.size wP (wP.alloc (.cells #[.string ⟨#[97]⟩, .int .i64 1, .int .i64 0] 69)) := (Below.refl _ _).alloc (Nat.le_refl _) _
            have rN := drawn_one wP W.heap.size k0abp.size
            have k0abpn : Below W.heap.size W (wP.alloc (.cells #[.string ⟨#[97]⟩, .int .i64 1, .int .i64 0] 69)) := k0abp.trans (bn.mono k0abp.size)
            have rB := rB.below bn
            have hp := hp.below bn
            have nBN : gB ≠ wP.heap.size := by omega
            clear lB
            generalize wP.alloc (.cells #[.string ⟨#[97]⟩, .int .i64 1, .int .i64 0] 69) = wN at rN k0abpn bn rB hp ⊢
            generalize wP.heap.size = gN at rN nBN ⊢
            clear bn
            refine hK.out _ _ (HMK.out _ k0abpn) (fun hHeld => ?_)
            clear hK K
            try go_frame
            refine wpAnyH_ready (rs := [8]) (by kernel_rfl) (by simp) ?_
            refine consL rfl (fun K hK => ?_) AllReadyH.nil
            refine step_append_own rfl (.tmp 73) (.tmp 75) 63 rfl W.heap.size 69 i0 _ 3 32 Try.underlying63 hi hz0 hz1 hz2 rfl (Nat.succ_pos 2) _ _ _ rfl rB.owns ⟨gN, 0, none⟩ 1 1 (flat [legZ]) rfl ?_ ?_ (flat_one _) ?_ ?_ ?_ ?_
            · rw [flat_len]; first | (rw [HLN.out]) | rfl
            · exact legs_news rN.legsAt
            · unfold maxLen; omega
            · omega
            · exact k0abpn.size
            intro v' wC hown2 hgrow2 hnil2
            obtain ⟨gC, cC, rfl⟩ := row_form hown2 (fun e => by have := (hnil2.1 e).2; omega)
            have rC : DrawnAt wC W.heap.size gC (n1 + 1) cC (L1 ++ [legZ]) := ⟨by rw [flat_append]; exact hown2, by simp [HLN.out], fun e he => by rcases List.mem_append.1 he with h | h; exact HLW.out e h; exact rN.legs e h, fun e he => by rcases List.mem_append.1 he with h | h; exact HLF.out e h; exact rN.accts e h⟩
            have k0abpnc : Below W.heap.size W wC := k0abpn.grown hgrow2 k0abpn.size (fun j e => by rw [own_G e]; exact rB.lt.1)
            have hp := hp.grown hgrow2 (fun e => hp.ne_row rB (own_G e.symm))
            clear hown2 hgrow2 hnil2 rB rN
            refine hK.out _ _ (HMK.out _ k0abpnc) (fun hHeld => ?_)
            clear hK K
            try go_frame
            refine wpAnyH_takeL (i := 9) (v := ?_) rfl (by kernel_rfl) (by kernel_rfl) (by kernel_rfl) (fun _ _ _ h => h) (Or.inl ⟨by rfl, ?_⟩) hHeld ?_
            rotate_left
            · (intro w hSw; (try dsimp only at hSw); go_simp; try with_reducible rfl)
            try go_frame
            refine wpAnyH_ready (rs := [11]) (by kernel_rfl) (by simp) ?_
            refine consL rfl (fun K hK => ?_) AllReadyH.nil
            have s0 := hp.box.c0
            have s1 := hp.box.c1
            have t0 := hp.box.f0
            have t1 := hp.box.f1
            have zp := hp.lt
            go_simp
            have kz := (k0abpnc.setCell (p := ⟨XC, 0, none⟩) hPw (.int .i64 id1)).setCell (p := ⟨XC, 1, none⟩) hPw (.slice (some ⟨gC, 0, none⟩) (n1 + 1) cC)
            have hq := (hp.set0 (.int .i64 id1)).set1 (.slice (some ⟨gC, 0, none⟩) (n1 + 1) cC)
            have rD := (rC.setCell (p := ⟨XC, 0, none⟩) (hp.ne_row rC) (.int .i64 id1)).setCell (p := ⟨XC, 1, none⟩) (hp.ne_row rC) (.slice (some ⟨gC, 0, none⟩) (n1 + 1) cC)
            clear s0 s1 t0 t1 zp
            refine hK.out _ _ (HMK.out _ kz) (fun hHeld => ?_)
            clear hK K
            try go_frame
            refine wpAnyH_done (by kernel_rfl) ?_ _
            go_wp2
            go_meet
            exact ⟨XC, gC, cC, rfl, hq, rD, hPw, kz⟩
        · go_simp
          have lA := rA.lt.2
          have bn : Below wA.heap.size wA (wA.alloc (.cells #[.string ⟨#[97]⟩, .int .i64 1, .int .i64 0] 69)) := (Below.refl _ _).alloc (Nat.le_refl _) _
          have rN := drawn_one wA W.heap.size k0a.size
          have k0an : Below W.heap.size W (wA.alloc (.cells #[.string ⟨#[97]⟩, .int .i64 1, .int .i64 0] 69)) := k0a.trans (bn.mono k0a.size)
          have rA := rA.below bn
          have nAN : gA ≠ wA.heap.size := by omega
          clear lA
          generalize wA.alloc (.cells #[.string ⟨#[97]⟩, .int .i64 1, .int .i64 0] 69) = wN at rN k0an bn rA ⊢
          generalize wA.heap.size = gN at rN nAN ⊢
          clear bn
          refine hK.out _ _ (HMK.out _ k0an) (fun hHeld => ?_)
          clear hK K
          try go_frame
          refine wpAnyH_ready (rs := [5, 10]) (by kernel_rfl) (by simp) ?_
          refine consL rfl (fun K hK => ?_) (consL rfl (fun K hK => ?_) AllReadyH.nil)
          · refine step_append_own rfl (.tmp 70) (.tmp 72) 63 rfl W.heap.size 69 i0 _ 3 32 Try.underlying63 hi hz0 hz1 hz2 rfl (Nat.succ_pos 2) _ _ _ rfl rA.owns ⟨g1, 0, none⟩ n1 c1 (flat L1) rfl ?_ ?_ (flat_one _) ?_ ?_ ?_ ?_
            · rw [flat_len]; first | (rw [HLN.out]) | rfl
            · exact legs_news (E1.out.keep k0an)
            · unfold maxLen; omega
            · omega
            · exact k0an.size
            intro v' wB hown hgrow hnil
            rw [Nat.zero_add] at hown
            obtain ⟨gB, cB, rfl⟩ := row_form hown (fun e => by have := (hnil.1 e).2; omega)
            have rB : DrawnAt wB W.heap.size gB n1 cB L1 := ⟨by simpa [flat] using hown, HLN.out, HLW.out, HLF.out⟩
            have k0anb : Below W.heap.size W wB := k0an.grown hgrow k0an.size (fun j e => by rw [own_G e]; exact rA.lt.1)
            have rN := rN.grown hgrow (fun e => nAN (own_G e.symm).symm)
            clear hown hgrow hnil rA nAN
            refine hK.out _ _ (HMK.out _ k0anb) (fun hHeld => ?_)
            clear hK K
            try go_frame
            refine wpAnyH_ready (rs := [8, 10]) (by kernel_rfl) (by simp) ?_
            refine consL rfl (fun K hK => ?_) (consL rfl (fun K hK => ?_) AllReadyH.nil)
            · refine step_append_own rfl (.tmp 73) (.tmp 75) 63 rfl W.heap.size 69 i0 _ 3 32 Try.underlying63 hi hz0 hz1 hz2 rfl (Nat.succ_pos 2) _ _ _ rfl rB.owns ⟨gN, 0, none⟩ 1 1 (flat [legZ]) rfl ?_ ?_ (flat_one _) ?_ ?_ ?_ ?_
              · rw [flat_len]; first | (rw [HLN.out]) | rfl
              · exact legs_news rN.legsAt
              · unfold maxLen; omega
              · omega
              · exact k0anb.size
              intro v' wC hown2 hgrow2 hnil2
              obtain ⟨gC, cC, rfl⟩ := row_form hown2 (fun e => by have := (hnil2.1 e).2; omega)
              have rC : DrawnAt wC W.heap.size gC (n1 + 1) cC (L1 ++ [legZ]) := ⟨by rw [flat_append]; exact hown2, by simp [HLN.out], fun e he => by rcases List.mem_append.1 he with h | h; exact HLW.out e h; exact rN.legs e h, fun e he => by rcases List.mem_append.1 he with h | h; exact HLF.out e h; exact rN.accts e h⟩
              have k0anbc : Below W.heap.size W wC := k0anb.grown hgrow2 k0anb.size (fun j e => by rw [own_G e]; exact rB.lt.1)
              clear hown2 hgrow2 hnil2 rB rN
              refine hK.out _ _ (HMK.out _ k0anbc) (fun hHeld => ?_)
              clear hK K
              try go_frame
              refine wpAnyH_takeL (i := 9) (v := ?_) rfl (by kernel_rfl) (by kernel_rfl) (by kernel_rfl) (fun _ _ _ h => h) (Or.inl ⟨by rfl, ?_⟩) hHeld ?_
              rotate_left
              · (intro w hSw; (try dsimp only at hSw); go_simp; try with_reducible rfl)
              try go_frame
              refine wpAnyH_ready (rs := [10]) (by kernel_rfl) (by simp) ?_
              refine consL rfl (fun K hK => ?_) AllReadyH.nil
              go_simp
              have bn : Below wC.heap.size wC (wC.alloc (.cells #[.int .i64 0, .slice none 0 0] 65)) := (Below.refl _ _).alloc (Nat.le_refl _) _
              have hp := BoxH.new wC (.int .i64 0) (.slice none 0 0); have hPw := k0anbc.size
              have k0anbcp : Below W.heap.size W (wC.alloc (.cells #[.int .i64 0, .slice none 0 0] 65)) := k0anbc.trans (bn.mono k0anbc.size)
              have rC := rC.below bn
              generalize wC.alloc (.cells #[.int .i64 0, .slice none 0 0] 65) = wP at hp k0anbcp bn rC ⊢
              generalize wC.heap.size = XC at hp hPw ⊢
              clear bn
              refine hK.out _ _ (HMK.out _ k0anbcp) (fun hHeld => ?_)
              clear hK K
              try go_frame
              refine wpAnyH_ready (rs := [11]) (by kernel_rfl) (by simp) ?_
              refine consL rfl (fun K hK => ?_) AllReadyH.nil
              have s0 := hp.box.c0
              have s1 := hp.box.c1
              have t0 := hp.box.f0
              have t1 := hp.box.f1
              have zp := hp.lt
              go_simp
              have kz := (k0anbcp.setCell (p := ⟨XC, 0, none⟩) hPw (.int .i64 id1)).setCell (p := ⟨XC, 1, none⟩) hPw (.slice (some ⟨gC, 0, none⟩) (n1 + 1) cC)
              have hq := (hp.set0 (.int .i64 id1)).set1 (.slice (some ⟨gC, 0, none⟩) (n1 + 1) cC)
              have rD := (rC.setCell (p := ⟨XC, 0, none⟩) (hp.ne_row rC) (.int .i64 id1)).setCell (p := ⟨XC, 1, none⟩) (hp.ne_row rC) (.slice (some ⟨gC, 0, none⟩) (n1 + 1) cC)
              clear s0 s1 t0 t1 zp
              refine hK.out _ _ (HMK.out _ kz) (fun hHeld => ?_)
              clear hK K
              try go_frame
              refine wpAnyH_done (by kernel_rfl) ?_ _
              go_wp2
              go_meet
              exact ⟨XC, gC, cC, rfl, hq, rD, hPw, kz⟩
            · go_simp
              have lB := rB.lt.2
              have lN := rN.lt.2
              have bn : Below wB.heap.size wB (wB.alloc (.cells #[.int .i64 0, .slice none 0 0] 65)) := (Below.refl _ _).alloc (Nat.le_refl _) _
              have hp := BoxH.new wB (.int .i64 0) (.slice none 0 0); have hPw := k0anb.size
              have k0anbp : Below W.heap.size W (wB.alloc (.cells #[.int .i64 0, .slice none 0 0] 65)) := k0anb.trans (bn.mono k0anb.size)
              have rB := rB.below bn
              have rN := rN.below bn
              clear lB lN
              generalize wB.alloc (.cells #[.int .i64 0, .slice none 0 0] 65) = wP at hp k0anbp bn rB rN ⊢
              generalize wB.heap.size = XC at hp hPw ⊢
              clear bn
              refine hK.out _ _ (HMK.out _ k0anbp) (fun hHeld => ?_)
              clear hK K
              try go_frame
              refine wpAnyH_ready (rs := [8]) (by kernel_rfl) (by simp) ?_
              refine consL rfl (fun K hK => ?_) AllReadyH.nil
              refine step_append_own rfl (.tmp 73) (.tmp 75) 63 rfl W.heap.size 69 i0 _ 3 32 Try.underlying63 hi hz0 hz1 hz2 rfl (Nat.succ_pos 2) _ _ _ rfl rB.owns ⟨gN, 0, none⟩ 1 1 (flat [legZ]) rfl ?_ ?_ (flat_one _) ?_ ?_ ?_ ?_
              · rw [flat_len]; first | (rw [HLN.out]) | rfl
              · exact legs_news rN.legsAt
              · unfold maxLen; omega
              · omega
              · exact k0anbp.size
              intro v' wC hown2 hgrow2 hnil2
              obtain ⟨gC, cC, rfl⟩ := row_form hown2 (fun e => by have := (hnil2.1 e).2; omega)
              have rC : DrawnAt wC W.heap.size gC (n1 + 1) cC (L1 ++ [legZ]) := ⟨by rw [flat_append]; exact hown2, by simp [HLN.out], fun e he => by rcases List.mem_append.1 he with h | h; exact HLW.out e h; exact rN.legs e h, fun e he => by rcases List.mem_append.1 he with h | h; exact HLF.out e h; exact rN.accts e h⟩
              have k0anbpc : Below W.heap.size W wC := k0anbp.grown hgrow2 k0anbp.size (fun j e => by rw [own_G e]; exact rB.lt.1)
              have hp := hp.grown hgrow2 (fun e => hp.ne_row rB (own_G e.symm))
              clear hown2 hgrow2 hnil2 rB rN
              refine hK.out _ _ (HMK.out _ k0anbpc) (fun hHeld => ?_)
              clear hK K
              try go_frame
              refine wpAnyH_takeL (i := 9) (v := ?_) rfl (by kernel_rfl) (by kernel_rfl) (by kernel_rfl) (fun _ _ _ h => h) (Or.inl ⟨by rfl, ?_⟩) hHeld ?_
              rotate_left
              · (intro w hSw; (try dsimp only at hSw); go_simp; try with_reducible rfl)
              try go_frame
              refine wpAnyH_ready (rs := [11]) (by kernel_rfl) (by simp) ?_
              refine consL rfl (fun K hK => ?_) AllReadyH.nil
              have s0 := hp.box.c0
              have s1 := hp.box.c1
              have t0 := hp.box.f0
              have t1 := hp.box.f1
              have zp := hp.lt
              go_simp
              have kz := (k0anbpc.setCell (p := ⟨XC, 0, none⟩) hPw (.int .i64 id1)).setCell (p := ⟨XC, 1, none⟩) hPw (.slice (some ⟨gC, 0, none⟩) (n1 + 1) cC)
              have hq := (hp.set0 (.int .i64 id1)).set1 (.slice (some ⟨gC, 0, none⟩) (n1 + 1) cC)
              have rD := (rC.setCell (p := ⟨XC, 0, none⟩) (hp.ne_row rC) (.int .i64 id1)).setCell (p := ⟨XC, 1, none⟩) (hp.ne_row rC) (.slice (some ⟨gC, 0, none⟩) (n1 + 1) cC)
              clear s0 s1 t0 t1 zp
              refine hK.out _ _ (HMK.out _ kz) (fun hHeld => ?_)
              clear hK K
              try go_frame
              refine wpAnyH_done (by kernel_rfl) ?_ _
              go_wp2
              go_meet
              exact ⟨XC, gC, cC, rfl, hq, rD, hPw, kz⟩
          · go_simp
            have lA := rA.lt.2
            have lN := rN.lt.2
            have bn : Below wN.heap.size wN (wN.alloc (.cells #[.int .i64 0, .slice none 0 0] 65)) := (Below.refl _ _).alloc (Nat.le_refl _) _
            have hp := BoxH.new wN (.int .i64 0) (.slice none 0 0); have hPw := k0an.size
            have k0anp : Below W.heap.size W (wN.alloc (.cells #[.int .i64 0, .slice none 0 0] 65)) := k0an.trans (bn.mono k0an.size)
            have rA := rA.below bn
            have rN := rN.below bn
            clear lA lN
            generalize wN.alloc (.cells #[.int .i64 0, .slice none 0 0] 65) = wP at hp k0anp bn rA rN ⊢
            generalize wN.heap.size = XC at hp hPw ⊢
            clear bn
            refine hK.out _ _ (HMK.out _ k0anp) (fun hHeld => ?_)
            clear hK K
            try go_frame
            refine wpAnyH_ready (rs := [5]) (by kernel_rfl) (by simp) ?_
            refine consL rfl (fun K hK => ?_) AllReadyH.nil
            refine step_append_own rfl (.tmp 70) (.tmp 72) 63 rfl W.heap.size 69 i0 _ 3 32 Try.underlying63 hi hz0 hz1 hz2 rfl (Nat.succ_pos 2) _ _ _ rfl rA.owns ⟨g1, 0, none⟩ n1 c1 (flat L1) rfl ?_ ?_ (flat_one _) ?_ ?_ ?_ ?_
            · rw [flat_len]; first | (rw [HLN.out]) | rfl
            · exact legs_news (E1.out.keep k0anp)
            · unfold maxLen; omega
            · omega
            · exact k0anp.size
            intro v' wB hown hgrow hnil
            rw [Nat.zero_add] at hown
            obtain ⟨gB, cB, rfl⟩ := row_form hown (fun e => by have := (hnil.1 e).2; omega)
            have rB : DrawnAt wB W.heap.size gB n1 cB L1 := ⟨by simpa [flat] using hown, HLN.out, HLW.out, HLF.out⟩
            have k0anpb : Below W.heap.size W wB := k0anp.grown hgrow k0anp.size (fun j e => by rw [own_G e]; exact rA.lt.1)
            have hp := hp.grown hgrow (fun e => hp.ne_row rA (own_G e.symm))
            have rN := rN.grown hgrow (fun e => nAN (own_G e.symm).symm)
            clear hown hgrow hnil rA nAN
            refine hK.out _ _ (HMK.out _ k0anpb) (fun hHeld => ?_)
            clear hK K
            try go_frame
            refine wpAnyH_ready (rs := [8]) (by kernel_rfl) (by simp) ?_
            refine consL rfl (fun K hK => ?_) AllReadyH.nil
            refine step_append_own rfl (.tmp 73) (.tmp 75) 63 rfl W.heap.size 69 i0 _ 3 32 Try.underlying63 hi hz0 hz1 hz2 rfl (Nat.succ_pos 2) _ _ _ rfl rB.owns ⟨gN, 0, none⟩ 1 1 (flat [legZ]) rfl ?_ ?_ (flat_one _) ?_ ?_ ?_ ?_
            · rw [flat_len]; first | (rw [HLN.out]) | rfl
            · exact legs_news rN.legsAt
            · unfold maxLen; omega
            · omega
            · exact k0anpb.size
            intro v' wC hown2 hgrow2 hnil2
            obtain ⟨gC, cC, rfl⟩ := row_form hown2 (fun e => by have := (hnil2.1 e).2; omega)
            have rC : DrawnAt wC W.heap.size gC (n1 + 1) cC (L1 ++ [legZ]) := ⟨by rw [flat_append]; exact hown2, by simp [HLN.out], fun e he => by rcases List.mem_append.1 he with h | h; exact HLW.out e h; exact rN.legs e h, fun e he => by rcases List.mem_append.1 he with h | h; exact HLF.out e h; exact rN.accts e h⟩
            have k0anpbc : Below W.heap.size W wC := k0anpb.grown hgrow2 k0anpb.size (fun j e => by rw [own_G e]; exact rB.lt.1)
            have hp := hp.grown hgrow2 (fun e => hp.ne_row rB (own_G e.symm))
            clear hown2 hgrow2 hnil2 rB rN
            refine hK.out _ _ (HMK.out _ k0anpbc) (fun hHeld => ?_)
            clear hK K
            try go_frame
            refine wpAnyH_takeL (i := 9) (v := ?_) rfl (by kernel_rfl) (by kernel_rfl) (by kernel_rfl) (fun _ _ _ h => h) (Or.inl ⟨by rfl, ?_⟩) hHeld ?_
            rotate_left
            · (intro w hSw; (try dsimp only at hSw); go_simp; try with_reducible rfl)
            try go_frame
            refine wpAnyH_ready (rs := [11]) (by kernel_rfl) (by simp) ?_
            refine consL rfl (fun K hK => ?_) AllReadyH.nil
            have s0 := hp.box.c0
            have s1 := hp.box.c1
            have t0 := hp.box.f0
            have t1 := hp.box.f1
            have zp := hp.lt
            go_simp
            have kz := (k0anpbc.setCell (p := ⟨XC, 0, none⟩) hPw (.int .i64 id1)).setCell (p := ⟨XC, 1, none⟩) hPw (.slice (some ⟨gC, 0, none⟩) (n1 + 1) cC)
            have hq := (hp.set0 (.int .i64 id1)).set1 (.slice (some ⟨gC, 0, none⟩) (n1 + 1) cC)
            have rD := (rC.setCell (p := ⟨XC, 0, none⟩) (hp.ne_row rC) (.int .i64 id1)).setCell (p := ⟨XC, 1, none⟩) (hp.ne_row rC) (.slice (some ⟨gC, 0, none⟩) (n1 + 1) cC)
            clear s0 s1 t0 t1 zp
            refine hK.out _ _ (HMK.out _ kz) (fun hHeld => ?_)
            clear hK K
            try go_frame
            refine wpAnyH_done (by kernel_rfl) ?_ _
            go_wp2
            go_meet
            exact ⟨XC, gC, cC, rfl, hq, rD, hPw, kz⟩
        · go_simp
          have lA := rA.lt.2
          have bn : Below wA.heap.size wA (wA.alloc (.cells #[.int .i64 0, .slice none 0 0] 65)) := (Below.refl _ _).alloc (Nat.le_refl _) _
          have hp := BoxH.new wA (.int .i64 0) (.slice none 0 0); have hPw := k0a.size
          have k0ap : Below W.heap.size W (wA.alloc (.cells #[.int .i64 0, .slice none 0 0] 65)) := k0a.trans (bn.mono k0a.size)
          have rA := rA.below bn
          clear lA
          generalize wA.alloc (.cells #[.int .i64 0, .slice none 0 0] 65) = wP at hp k0ap bn rA ⊢
          generalize wA.heap.size = XC at hp hPw ⊢
          clear bn
          refine hK.out _ _ (HMK.out _ k0ap) (fun hHeld => ?_)
          clear hK K
          try go_frame
          refine wpAnyH_ready (rs := [5, 7]) (by kernel_rfl) (by simp) ?_
          refine consL rfl (fun K hK => ?_) (consL rfl (fun K hK => ?_) AllReadyH.nil)
          · refine step_append_own rfl (.tmp 70) (.tmp 72) 63 rfl W.heap.size 69 i0 _ 3 32 Try.underlying63 hi hz0 hz1 hz2 rfl (Nat.succ_pos 2) _ _ _ rfl rA.owns ⟨g1, 0, none⟩ n1 c1 (flat L1) rfl ?_ ?_ (flat_one _) ?_ ?_ ?_ ?_
            · rw [flat_len]; first | (rw [HLN.out]) | rfl
            · exact legs_news (E1.out.keep k0ap)
            · unfold maxLen; omega
            · omega
            · exact k0ap.size
            intro v' wB hown hgrow hnil
            rw [Nat.zero_add] at hown
            obtain ⟨gB, cB, rfl⟩ := row_form hown (fun e => by have := (hnil.1 e).2; omega)
            have rB : DrawnAt wB W.heap.size gB n1 cB L1 := ⟨by simpa [flat] using hown, HLN.out, HLW.out, HLF.out⟩
            have k0apb : Below W.heap.size W wB := k0ap.grown hgrow k0ap.size (fun j e => by rw [own_G e]; exact rA.lt.1)
            have hp := hp.grown hgrow (fun e => hp.ne_row rA (own_G e.symm))
            clear hown hgrow hnil rA
            refine hK.out _ _ (HMK.out _ k0apb) (fun hHeld => ?_)
            clear hK K
            try go_frame
            refine wpAnyH_ready (rs := [7]) (by kernel_rfl) (by simp) ?_
            refine consL rfl (fun K hK => ?_) AllReadyH.nil
            go_simp
            have lB := rB.lt.2
            have bn : Below wB.heap.size wB (wB.alloc (.cells #[.string ⟨#[97]⟩, .int .i64 1, .int .i64 0] 69)) := (Below.refl _ _).alloc (Nat.le_refl _) _
            have rN := drawn_one wB W.heap.size k0apb.size
            have k0apbn : Below W.heap.size W (wB.alloc (.cells #[.string ⟨#[97]⟩, .int .i64 1, .int .i64 0] 69)) := k0apb.trans (bn.mono k0apb.size)
            have rB := rB.below bn
            have hp := hp.below bn
            have nBN : gB ≠ wB.heap.size := by omega
            clear lB
            generalize wB.alloc (.cells #[.string ⟨#[97]⟩, .int .i64 1, .int .i64 0] 69) = wN at rN k0apbn bn rB hp ⊢
            generalize wB.heap.size = gN at rN nBN ⊢
            clear bn
            refine hK.out _ _ (HMK.out _ k0apbn) (fun hHeld => ?_)
            clear hK K
            try go_frame
            refine wpAnyH_ready (rs := [8]) (by kernel_rfl) (by simp) ?_
            refine consL rfl (fun K hK => ?_) AllReadyH.nil
            refine step_append_own rfl (.tmp 73) (.tmp 75) 63 rfl W.heap.size 69 i0 _ 3 32 Try.underlying63 hi hz0 hz1 hz2 rfl (Nat.succ_pos 2) _ _ _ rfl rB.owns ⟨gN, 0, none⟩ 1 1 (flat [legZ]) rfl ?_ ?_ (flat_one _) ?_ ?_ ?_ ?_
            · rw [flat_len]; first | (rw [HLN.out]) | rfl
            · exact legs_news rN.legsAt
            · unfold maxLen; omega
            · omega
            · exact k0apbn.size
            intro v' wC hown2 hgrow2 hnil2
            obtain ⟨gC, cC, rfl⟩ := row_form hown2 (fun e => by have := (hnil2.1 e).2; omega)
            have rC : DrawnAt wC W.heap.size gC (n1 + 1) cC (L1 ++ [legZ]) := ⟨by rw [flat_append]; exact hown2, by simp [HLN.out], fun e he => by rcases List.mem_append.1 he with h | h; exact HLW.out e h; exact rN.legs e h, fun e he => by rcases List.mem_append.1 he with h | h; exact HLF.out e h; exact rN.accts e h⟩
            have k0apbnc : Below W.heap.size W wC := k0apbn.grown hgrow2 k0apbn.size (fun j e => by rw [own_G e]; exact rB.lt.1)
            have hp := hp.grown hgrow2 (fun e => hp.ne_row rB (own_G e.symm))
            clear hown2 hgrow2 hnil2 rB rN
            refine hK.out _ _ (HMK.out _ k0apbnc) (fun hHeld => ?_)
            clear hK K
            try go_frame
            refine wpAnyH_takeL (i := 9) (v := ?_) rfl (by kernel_rfl) (by kernel_rfl) (by kernel_rfl) (fun _ _ _ h => h) (Or.inl ⟨by rfl, ?_⟩) hHeld ?_
            rotate_left
            · (intro w hSw; (try dsimp only at hSw); go_simp; try with_reducible rfl)
            try go_frame
            refine wpAnyH_ready (rs := [11]) (by kernel_rfl) (by simp) ?_
            refine consL rfl (fun K hK => ?_) AllReadyH.nil
            have s0 := hp.box.c0
            have s1 := hp.box.c1
            have t0 := hp.box.f0
            have t1 := hp.box.f1
            have zp := hp.lt
            go_simp
            have kz := (k0apbnc.setCell (p := ⟨XC, 0, none⟩) hPw (.int .i64 id1)).setCell (p := ⟨XC, 1, none⟩) hPw (.slice (some ⟨gC, 0, none⟩) (n1 + 1) cC)
            have hq := (hp.set0 (.int .i64 id1)).set1 (.slice (some ⟨gC, 0, none⟩) (n1 + 1) cC)
            have rD := (rC.setCell (p := ⟨XC, 0, none⟩) (hp.ne_row rC) (.int .i64 id1)).setCell (p := ⟨XC, 1, none⟩) (hp.ne_row rC) (.slice (some ⟨gC, 0, none⟩) (n1 + 1) cC)
            clear s0 s1 t0 t1 zp
            refine hK.out _ _ (HMK.out _ kz) (fun hHeld => ?_)
            clear hK K
            try go_frame
            refine wpAnyH_done (by kernel_rfl) ?_ _
            go_wp2
            go_meet
            exact ⟨XC, gC, cC, rfl, hq, rD, hPw, kz⟩
          · go_simp
            have lA := rA.lt.2
            have bn : Below wP.heap.size wP (wP.alloc (.cells #[.string ⟨#[97]⟩, .int .i64 1, .int .i64 0] 69)) := (Below.refl _ _).alloc (Nat.le_refl _) _
            have rN := drawn_one wP W.heap.size k0ap.size
            have k0apn : Below W.heap.size W (wP.alloc (.cells #[.string ⟨#[97]⟩, .int .i64 1, .int .i64 0] 69)) := k0ap.trans (bn.mono k0ap.size)
            have rA := rA.below bn
            have hp := hp.below bn
            have nAN : gA ≠ wP.heap.size := by omega
            clear lA
            generalize wP.alloc (.cells #[.string ⟨#[97]⟩, .int .i64 1, .int .i64 0] 69) = wN at rN k0apn bn rA hp ⊢
            generalize wP.heap.size = gN at rN nAN ⊢
            clear bn
            refine hK.out _ _ (HMK.out _ k0apn) (fun hHeld => ?_)
            clear hK K
            try go_frame
            refine wpAnyH_ready (rs := [5]) (by kernel_rfl) (by simp) ?_
            refine consL rfl (fun K hK => ?_) AllReadyH.nil
            refine step_append_own rfl (.tmp 70) (.tmp 72) 63 rfl W.heap.size 69 i0 _ 3 32 Try.underlying63 hi hz0 hz1 hz2 rfl (Nat.succ_pos 2) _ _ _ rfl rA.owns ⟨g1, 0, none⟩ n1 c1 (flat L1) rfl ?_ ?_ (flat_one _) ?_ ?_ ?_ ?_
            · rw [flat_len]; first | (rw [HLN.out]) | rfl
            · exact legs_news (E1.out.keep k0apn)
            · unfold maxLen; omega
            · omega
            · exact k0apn.size
            intro v' wB hown hgrow hnil
            rw [Nat.zero_add] at hown
            obtain ⟨gB, cB, rfl⟩ := row_form hown (fun e => by have := (hnil.1 e).2; omega)
            have rB : DrawnAt wB W.heap.size gB n1 cB L1 := ⟨by simpa [flat] using hown, HLN.out, HLW.out, HLF.out⟩
            have k0apnb : Below W.heap.size W wB := k0apn.grown hgrow k0apn.size (fun j e => by rw [own_G e]; exact rA.lt.1)
            have hp := hp.grown hgrow (fun e => hp.ne_row rA (own_G e.symm))
            have rN := rN.grown hgrow (fun e => nAN (own_G e.symm).symm)
            clear hown hgrow hnil rA nAN
            refine hK.out _ _ (HMK.out _ k0apnb) (fun hHeld => ?_)
            clear hK K
            try go_frame
            refine wpAnyH_ready (rs := [8]) (by kernel_rfl) (by simp) ?_
            refine consL rfl (fun K hK => ?_) AllReadyH.nil
            refine step_append_own rfl (.tmp 73) (.tmp 75) 63 rfl W.heap.size 69 i0 _ 3 32 Try.underlying63 hi hz0 hz1 hz2 rfl (Nat.succ_pos 2) _ _ _ rfl rB.owns ⟨gN, 0, none⟩ 1 1 (flat [legZ]) rfl ?_ ?_ (flat_one _) ?_ ?_ ?_ ?_
            · rw [flat_len]; first | (rw [HLN.out]) | rfl
            · exact legs_news rN.legsAt
            · unfold maxLen; omega
            · omega
            · exact k0apnb.size
            intro v' wC hown2 hgrow2 hnil2
            obtain ⟨gC, cC, rfl⟩ := row_form hown2 (fun e => by have := (hnil2.1 e).2; omega)
            have rC : DrawnAt wC W.heap.size gC (n1 + 1) cC (L1 ++ [legZ]) := ⟨by rw [flat_append]; exact hown2, by simp [HLN.out], fun e he => by rcases List.mem_append.1 he with h | h; exact HLW.out e h; exact rN.legs e h, fun e he => by rcases List.mem_append.1 he with h | h; exact HLF.out e h; exact rN.accts e h⟩
            have k0apnbc : Below W.heap.size W wC := k0apnb.grown hgrow2 k0apnb.size (fun j e => by rw [own_G e]; exact rB.lt.1)
            have hp := hp.grown hgrow2 (fun e => hp.ne_row rB (own_G e.symm))
            clear hown2 hgrow2 hnil2 rB rN
            refine hK.out _ _ (HMK.out _ k0apnbc) (fun hHeld => ?_)
            clear hK K
            try go_frame
            refine wpAnyH_takeL (i := 9) (v := ?_) rfl (by kernel_rfl) (by kernel_rfl) (by kernel_rfl) (fun _ _ _ h => h) (Or.inl ⟨by rfl, ?_⟩) hHeld ?_
            rotate_left
            · (intro w hSw; (try dsimp only at hSw); go_simp; try with_reducible rfl)
            try go_frame
            refine wpAnyH_ready (rs := [11]) (by kernel_rfl) (by simp) ?_
            refine consL rfl (fun K hK => ?_) AllReadyH.nil
            have s0 := hp.box.c0
            have s1 := hp.box.c1
            have t0 := hp.box.f0
            have t1 := hp.box.f1
            have zp := hp.lt
            go_simp
            have kz := (k0apnbc.setCell (p := ⟨XC, 0, none⟩) hPw (.int .i64 id1)).setCell (p := ⟨XC, 1, none⟩) hPw (.slice (some ⟨gC, 0, none⟩) (n1 + 1) cC)
            have hq := (hp.set0 (.int .i64 id1)).set1 (.slice (some ⟨gC, 0, none⟩) (n1 + 1) cC)
            have rD := (rC.setCell (p := ⟨XC, 0, none⟩) (hp.ne_row rC) (.int .i64 id1)).setCell (p := ⟨XC, 1, none⟩) (hp.ne_row rC) (.slice (some ⟨gC, 0, none⟩) (n1 + 1) cC)
            clear s0 s1 t0 t1 zp
            refine hK.out _ _ (HMK.out _ kz) (fun hHeld => ?_)
            clear hK K
            try go_frame
            refine wpAnyH_done (by kernel_rfl) ?_ _
            go_wp2
            go_meet
            exact ⟨XC, gC, cC, rfl, hq, rD, hPw, kz⟩
      · go_simp
        have bn : Below wd.heap.size wd (wd.alloc (.cells #[.string ⟨#[97]⟩, .int .i64 1, .int .i64 0] 69)) := (Below.refl _ _).alloc (Nat.le_refl _) _
        have rN := drawn_one wd W.heap.size k0.size
        have k0n : Below W.heap.size W (wd.alloc (.cells #[.string ⟨#[97]⟩, .int .i64 1, .int .i64 0] 69)) := k0.trans (bn.mono k0.size)
        generalize wd.alloc (.cells #[.string ⟨#[97]⟩, .int .i64 1, .int .i64 0] 69) = wN at rN k0n bn  ⊢
        generalize wd.heap.size = gN at rN  ⊢
        clear bn
        refine hK.out _ _ (HMK.out _ k0n) (fun hHeld => ?_)
        clear hK K
        try go_frame
        refine wpAnyH_ready (rs := [2, 10]) (by kernel_rfl) (by simp) ?_
        refine consL rfl (fun K hK => ?_) (consL rfl (fun K hK => ?_) AllReadyH.nil)
        · go_simp
          have lN := rN.lt.2
          have bn : Below wN.heap.size wN (wN.alloc (.cells #[] 69)) := (Below.refl _ _).alloc (Nat.le_refl _) _
          have rA := drawn_empty wN W.heap.size k0n.size
          have k0na : Below W.heap.size W (wN.alloc (.cells #[] 69)) := k0n.trans (bn.mono k0n.size)
          have rN := rN.below bn
          have nAN : wN.heap.size ≠ gN := by omega
          clear lN
          generalize wN.alloc (.cells #[] 69) = wA at rA k0na bn rN ⊢
          generalize wN.heap.size = gA at rA nAN ⊢
          clear bn
          refine hK.out _ _ (HMK.out _ k0na) (fun hHeld => ?_)
          clear hK K
          try go_frame
          refine wpAnyH_ready (rs := [5, 10]) (by kernel_rfl) (by simp) ?_
          refine consL rfl (fun K hK => ?_) (consL rfl (fun K hK => ?_) AllReadyH.nil)
          · refine step_append_own rfl (.tmp 70) (.tmp 72) 63 rfl W.heap.size 69 i0 _ 3 32 Try.underlying63 hi hz0 hz1 hz2 rfl (Nat.succ_pos 2) _ _ _ rfl rA.owns ⟨g1, 0, none⟩ n1 c1 (flat L1) rfl ?_ ?_ (flat_one _) ?_ ?_ ?_ ?_
            · rw [flat_len]; first | (rw [HLN.out]) | rfl
            · exact legs_news (E1.out.keep k0na)
            · unfold maxLen; omega
            · omega
            · exact k0na.size
            intro v' wB hown hgrow hnil
            rw [Nat.zero_add] at hown
            obtain ⟨gB, cB, rfl⟩ := row_form hown (fun e => by have := (hnil.1 e).2; omega)
            have rB : DrawnAt wB W.heap.size gB n1 cB L1 := ⟨by simpa [flat] using hown, HLN.out, HLW.out, HLF.out⟩
            have k0nab : Below W.heap.size W wB := k0na.grown hgrow k0na.size (fun j e => by rw [own_G e]; exact rA.lt.1)
            have rN := rN.grown hgrow (fun e => nAN (own_G e.symm).symm)
            clear hown hgrow hnil rA nAN
            refine hK.out _ _ (HMK.out _ k0nab) (fun hHeld => ?_)
            clear hK K
            try go_frame
            refine wpAnyH_ready (rs := [8, 10]) (by kernel_rfl) (by simp) ?_
            refine consL rfl (fun K hK => ?_) (consL rfl (fun K hK => ?_) AllReadyH.nil)
            · refine step_append_own rfl (.tmp 73) (.tmp 75) 63 rfl W.heap.size 69 i0 _ 3 32 Try.underlying63 hi hz0 hz1 hz2 rfl (Nat.succ_pos 2) _ _ _ rfl rB.owns ⟨gN, 0, none⟩ 1 1 (flat [legZ]) rfl ?_ ?_ (flat_one _) ?_ ?_ ?_ ?_
              · rw [flat_len]; first | (rw [HLN.out]) | rfl
              · exact legs_news rN.legsAt
              · unfold maxLen; omega
              · omega
              · exact k0nab.size
              intro v' wC hown2 hgrow2 hnil2
              obtain ⟨gC, cC, rfl⟩ := row_form hown2 (fun e => by have := (hnil2.1 e).2; omega)
              have rC : DrawnAt wC W.heap.size gC (n1 + 1) cC (L1 ++ [legZ]) := ⟨by rw [flat_append]; exact hown2, by simp [HLN.out], fun e he => by rcases List.mem_append.1 he with h | h; exact HLW.out e h; exact rN.legs e h, fun e he => by rcases List.mem_append.1 he with h | h; exact HLF.out e h; exact rN.accts e h⟩
              have k0nabc : Below W.heap.size W wC := k0nab.grown hgrow2 k0nab.size (fun j e => by rw [own_G e]; exact rB.lt.1)
              clear hown2 hgrow2 hnil2 rB rN
              refine hK.out _ _ (HMK.out _ k0nabc) (fun hHeld => ?_)
              clear hK K
              try go_frame
              refine wpAnyH_takeL (i := 9) (v := ?_) rfl (by kernel_rfl) (by kernel_rfl) (by kernel_rfl) (fun _ _ _ h => h) (Or.inl ⟨by rfl, ?_⟩) hHeld ?_
              rotate_left
              · (intro w hSw; (try dsimp only at hSw); go_simp; try with_reducible rfl)
              try go_frame
              refine wpAnyH_ready (rs := [10]) (by kernel_rfl) (by simp) ?_
              refine consL rfl (fun K hK => ?_) AllReadyH.nil
              go_simp
              have bn : Below wC.heap.size wC (wC.alloc (.cells #[.int .i64 0, .slice none 0 0] 65)) := (Below.refl _ _).alloc (Nat.le_refl _) _
              have hp := BoxH.new wC (.int .i64 0) (.slice none 0 0); have hPw := k0nabc.size
              have k0nabcp : Below W.heap.size W (wC.alloc (.cells #[.int .i64 0, .slice none 0 0] 65)) := k0nabc.trans (bn.mono k0nabc.size)
              have rC := rC.below bn
              generalize wC.alloc (.cells #[.int .i64 0, .slice none 0 0] 65) = wP at hp k0nabcp bn rC ⊢
              generalize wC.heap.size = XC at hp hPw ⊢
              clear bn
              refine hK.out _ _ (HMK.out _ k0nabcp) (fun hHeld => ?_)
              clear hK K
              try go_frame
              refine wpAnyH_ready (rs := [11]) (by kernel_rfl) (by simp) ?_
              refine consL rfl (fun K hK => ?_) AllReadyH.nil
              have s0 := hp.box.c0
              have s1 := hp.box.c1
              have t0 := hp.box.f0
              have t1 := hp.box.f1
              have zp := hp.lt
              go_simp
              have kz := (k0nabcp.setCell (p := ⟨XC, 0, none⟩) hPw (.int .i64 id1)).setCell (p := ⟨XC, 1, none⟩) hPw (.slice (some ⟨gC, 0, none⟩) (n1 + 1) cC)
              have hq := (hp.set0 (.int .i64 id1)).set1 (.slice (some ⟨gC, 0, none⟩) (n1 + 1) cC)
              have rD := (rC.setCell (p := ⟨XC, 0, none⟩) (hp.ne_row rC) (.int .i64 id1)).setCell (p := ⟨XC, 1, none⟩) (hp.ne_row rC) (.slice (some ⟨gC, 0, none⟩) (n1 + 1) cC)
              clear s0 s1 t0 t1 zp
              refine hK.out _ _ (HMK.out _ kz) (fun hHeld => ?_)
              clear hK K
              try go_frame
              refine wpAnyH_done (by kernel_rfl) ?_ _
              go_wp2
              go_meet
              exact ⟨XC, gC, cC, rfl, hq, rD, hPw, kz⟩
            · go_simp
              have lB := rB.lt.2
              have lN := rN.lt.2
              have bn : Below wB.heap.size wB (wB.alloc (.cells #[.int .i64 0, .slice none 0 0] 65)) := (Below.refl _ _).alloc (Nat.le_refl _) _
              have hp := BoxH.new wB (.int .i64 0) (.slice none 0 0); have hPw := k0nab.size
              have k0nabp : Below W.heap.size W (wB.alloc (.cells #[.int .i64 0, .slice none 0 0] 65)) := k0nab.trans (bn.mono k0nab.size)
              have rB := rB.below bn
              have rN := rN.below bn
              clear lB lN
              generalize wB.alloc (.cells #[.int .i64 0, .slice none 0 0] 65) = wP at hp k0nabp bn rB rN ⊢
              generalize wB.heap.size = XC at hp hPw ⊢
              clear bn
              refine hK.out _ _ (HMK.out _ k0nabp) (fun hHeld => ?_)
              clear hK K
              try go_frame
              refine wpAnyH_ready (rs := [8]) (by kernel_rfl) (by simp) ?_
              refine consL rfl (fun K hK => ?_) AllReadyH.nil
              refine step_append_own rfl (.tmp 73) (.tmp 75) 63 rfl W.heap.size 69 i0 _ 3 32 Try.underlying63 hi hz0 hz1 hz2 rfl (Nat.succ_pos 2) _ _ _ rfl rB.owns ⟨gN, 0, none⟩ 1 1 (flat [legZ]) rfl ?_ ?_ (flat_one _) ?_ ?_ ?_ ?_
              · rw [flat_len]; first | (rw [HLN.out]) | rfl
              · exact legs_news rN.legsAt
              · unfold maxLen; omega
              · omega
              · exact k0nabp.size
              intro v' wC hown2 hgrow2 hnil2
              obtain ⟨gC, cC, rfl⟩ := row_form hown2 (fun e => by have := (hnil2.1 e).2; omega)
              have rC : DrawnAt wC W.heap.size gC (n1 + 1) cC (L1 ++ [legZ]) := ⟨by rw [flat_append]; exact hown2, by simp [HLN.out], fun e he => by rcases List.mem_append.1 he with h | h; exact HLW.out e h; exact rN.legs e h, fun e he => by rcases List.mem_append.1 he with h | h; exact HLF.out e h; exact rN.accts e h⟩
              have k0nabpc : Below W.heap.size W wC := k0nabp.grown hgrow2 k0nabp.size (fun j e => by rw [own_G e]; exact rB.lt.1)
              have hp := hp.grown hgrow2 (fun e => hp.ne_row rB (own_G e.symm))
              clear hown2 hgrow2 hnil2 rB rN
              refine hK.out _ _ (HMK.out _ k0nabpc) (fun hHeld => ?_)
              clear hK K
              try go_frame
              refine wpAnyH_takeL (i := 9) (v := ?_) rfl (by kernel_rfl) (by kernel_rfl) (by kernel_rfl) (fun _ _ _ h => h) (Or.inl ⟨by rfl, ?_⟩) hHeld ?_
              rotate_left
              · (intro w hSw; (try dsimp only at hSw); go_simp; try with_reducible rfl)
              try go_frame
              refine wpAnyH_ready (rs := [11]) (by kernel_rfl) (by simp) ?_
              refine consL rfl (fun K hK => ?_) AllReadyH.nil
              have s0 := hp.box.c0
              have s1 := hp.box.c1
              have t0 := hp.box.f0
              have t1 := hp.box.f1
              have zp := hp.lt
              go_simp
              have kz := (k0nabpc.setCell (p := ⟨XC, 0, none⟩) hPw (.int .i64 id1)).setCell (p := ⟨XC, 1, none⟩) hPw (.slice (some ⟨gC, 0, none⟩) (n1 + 1) cC)
              have hq := (hp.set0 (.int .i64 id1)).set1 (.slice (some ⟨gC, 0, none⟩) (n1 + 1) cC)
              have rD := (rC.setCell (p := ⟨XC, 0, none⟩) (hp.ne_row rC) (.int .i64 id1)).setCell (p := ⟨XC, 1, none⟩) (hp.ne_row rC) (.slice (some ⟨gC, 0, none⟩) (n1 + 1) cC)
              clear s0 s1 t0 t1 zp
              refine hK.out _ _ (HMK.out _ kz) (fun hHeld => ?_)
              clear hK K
              try go_frame
              refine wpAnyH_done (by kernel_rfl) ?_ _
              go_wp2
              go_meet
              exact ⟨XC, gC, cC, rfl, hq, rD, hPw, kz⟩
          · go_simp
            have lA := rA.lt.2
            have lN := rN.lt.2
            have bn : Below wA.heap.size wA (wA.alloc (.cells #[.int .i64 0, .slice none 0 0] 65)) := (Below.refl _ _).alloc (Nat.le_refl _) _
            have hp := BoxH.new wA (.int .i64 0) (.slice none 0 0); have hPw := k0na.size
            have k0nap : Below W.heap.size W (wA.alloc (.cells #[.int .i64 0, .slice none 0 0] 65)) := k0na.trans (bn.mono k0na.size)
            have rA := rA.below bn
            have rN := rN.below bn
            clear lA lN
            generalize wA.alloc (.cells #[.int .i64 0, .slice none 0 0] 65) = wP at hp k0nap bn rA rN ⊢
            generalize wA.heap.size = XC at hp hPw ⊢
            clear bn
            refine hK.out _ _ (HMK.out _ k0nap) (fun hHeld => ?_)
            clear hK K
            try go_frame
            refine wpAnyH_ready (rs := [5]) (by kernel_rfl) (by simp) ?_
            refine consL rfl (fun K hK => ?_) AllReadyH.nil
            refine step_append_own rfl (.tmp 70) (.tmp 72) 63 rfl W.heap.size 69 i0 _ 3 32 Try.underlying63 hi hz0 hz1 hz2 rfl (Nat.succ_pos 2) _ _ _ rfl rA.owns ⟨g1, 0, none⟩ n1 c1 (flat L1) rfl ?_ ?_ (flat_one _) ?_ ?_ ?_ ?_
            · rw [flat_len]; first | (rw [HLN.out]) | rfl
            · exact legs_news (E1.out.keep k0nap)
            · unfold maxLen; omega
            · omega
            · exact k0nap.size
            intro v' wB hown hgrow hnil
            rw [Nat.zero_add] at hown
            obtain ⟨gB, cB, rfl⟩ := row_form hown (fun e => by have := (hnil.1 e).2; omega)
            have rB : DrawnAt wB W.heap.size gB n1 cB L1 := ⟨by simpa [flat] using hown, HLN.out, HLW.out, HLF.out⟩
            have k0napb : Below W.heap.size W wB := k0nap.grown hgrow k0nap.size (fun j e => by rw [own_G e]; exact rA.lt.1)
            have hp := hp.grown hgrow (fun e => hp.ne_row rA (own_G e.symm))
            have rN := rN.grown hgrow (fun e => nAN (own_G e.symm).symm)
            clear hown hgrow hnil rA nAN
            refine hK.out _ _ (HMK.out _ k0napb) (fun hHeld => ?_)
            clear hK K
            try go_frame
            refine wpAnyH_ready (rs := [8]) (by kernel_rfl) (by simp) ?_
            refine consL rfl (fun K hK => ?_) AllReadyH.nil
            refine step_append_own rfl (.tmp 73) (.tmp 75) 63 rfl W.heap.size 69 i0 _ 3 32 Try.underlying63 hi hz0 hz1 hz2 rfl (Nat.succ_pos 2) _ _ _ rfl rB.owns ⟨gN, 0, none⟩ 1 1 (flat [legZ]) rfl ?_ ?_ (flat_one _) ?_ ?_ ?_ ?_
            · rw [flat_len]; first | (rw [HLN.out]) | rfl
            · exact legs_news rN.legsAt
            · unfold maxLen; omega
            · omega
            · exact k0napb.size
            intro v' wC hown2 hgrow2 hnil2
            obtain ⟨gC, cC, rfl⟩ := row_form hown2 (fun e => by have := (hnil2.1 e).2; omega)
            have rC : DrawnAt wC W.heap.size gC (n1 + 1) cC (L1 ++ [legZ]) := ⟨by rw [flat_append]; exact hown2, by simp [HLN.out], fun e he => by rcases List.mem_append.1 he with h | h; exact HLW.out e h; exact rN.legs e h, fun e he => by rcases List.mem_append.1 he with h | h; exact HLF.out e h; exact rN.accts e h⟩
            have k0napbc : Below W.heap.size W wC := k0napb.grown hgrow2 k0napb.size (fun j e => by rw [own_G e]; exact rB.lt.1)
            have hp := hp.grown hgrow2 (fun e => hp.ne_row rB (own_G e.symm))
            clear hown2 hgrow2 hnil2 rB rN
            refine hK.out _ _ (HMK.out _ k0napbc) (fun hHeld => ?_)
            clear hK K
            try go_frame
            refine wpAnyH_takeL (i := 9) (v := ?_) rfl (by kernel_rfl) (by kernel_rfl) (by kernel_rfl) (fun _ _ _ h => h) (Or.inl ⟨by rfl, ?_⟩) hHeld ?_
            rotate_left
            · (intro w hSw; (try dsimp only at hSw); go_simp; try with_reducible rfl)
            try go_frame
            refine wpAnyH_ready (rs := [11]) (by kernel_rfl) (by simp) ?_
            refine consL rfl (fun K hK => ?_) AllReadyH.nil
            have s0 := hp.box.c0
            have s1 := hp.box.c1
            have t0 := hp.box.f0
            have t1 := hp.box.f1
            have zp := hp.lt
            go_simp
            have kz := (k0napbc.setCell (p := ⟨XC, 0, none⟩) hPw (.int .i64 id1)).setCell (p := ⟨XC, 1, none⟩) hPw (.slice (some ⟨gC, 0, none⟩) (n1 + 1) cC)
            have hq := (hp.set0 (.int .i64 id1)).set1 (.slice (some ⟨gC, 0, none⟩) (n1 + 1) cC)
            have rD := (rC.setCell (p := ⟨XC, 0, none⟩) (hp.ne_row rC) (.int .i64 id1)).setCell (p := ⟨XC, 1, none⟩) (hp.ne_row rC) (.slice (some ⟨gC, 0, none⟩) (n1 + 1) cC)
            clear s0 s1 t0 t1 zp
            refine hK.out _ _ (HMK.out _ kz) (fun hHeld => ?_)
            clear hK K
            try go_frame
            refine wpAnyH_done (by kernel_rfl) ?_ _
            go_wp2
            go_meet
            exact ⟨XC, gC, cC, rfl, hq, rD, hPw, kz⟩
        · go_simp
          have lN := rN.lt.2
          have bn : Below wN.heap.size wN (wN.alloc (.cells #[.int .i64 0, .slice none 0 0] 65)) := (Below.refl _ _).alloc (Nat.le_refl _) _
          have hp := BoxH.new wN (.int .i64 0) (.slice none 0 0); have hPw := k0n.size
          have k0np : Below W.heap.size W (wN.alloc (.cells #[.int .i64 0, .slice none 0 0] 65)) := k0n.trans (bn.mono k0n.size)
          have rN := rN.below bn
          clear lN
          generalize wN.alloc (.cells #[.int .i64 0, .slice none 0 0] 65) = wP at hp k0np bn rN ⊢
          generalize wN.heap.size = XC at hp hPw ⊢
          clear bn
          refine hK.out _ _ (HMK.out _ k0np) (fun hHeld => ?_)
          clear hK K
          try go_frame
          refine wpAnyH_ready (rs := [2]) (by kernel_rfl) (by simp) ?_
          refine consL rfl (fun K hK => ?_) AllReadyH.nil
          go_simp
          have lN := rN.lt.2
          have bn : Below wP.heap.size wP (wP.alloc (.cells #[] 69)) := (Below.refl _ _).alloc (Nat.le_refl _) _
          have rA := drawn_empty wP W.heap.size k0np.size
          have k0npa : Below W.heap.size W (wP.alloc (.cells #[] 69)) := k0np.trans (bn.mono k0np.size)
          have rN := rN.below bn
          have hp := hp.below bn
          have nAN : wP.heap.size ≠ gN := by omega
          clear lN
          generalize wP.alloc (.cells #[] 69) = wA at rA k0npa bn rN hp ⊢
          generalize wP.heap.size = gA at rA nAN ⊢
          clear bn
          refine hK.out _ _ (HMK.out _ k0npa) (fun hHeld => ?_)
          clear hK K
          try go_frame
          refine wpAnyH_ready (rs := [5]) (by kernel_rfl) (by simp) ?_
          refine consL rfl (fun K hK => ?_) AllReadyH.nil
          refine step_append_own rfl (.tmp 70) (.tmp 72) 63 rfl W.heap.size 69 i0 _ 3 32 Try.underlying63 hi hz0 hz1 hz2 rfl (Nat.succ_pos 2) _ _ _ rfl rA.owns ⟨g1, 0, none⟩ n1 c1 (flat L1) rfl ?_ ?_ (flat_one _) ?_ ?_ ?_ ?_
          · rw [flat_len]; first | (rw [HLN.out]) | rfl
          · exact legs_news (E1.out.keep k0npa)
          · unfold maxLen; omega
          · omega
          · exact k0npa.size
          intro v' wB hown hgrow hnil
          rw [Nat.zero_add] at hown
          obtain ⟨gB, cB, rfl⟩ := row_form hown (fun e => by have := (hnil.1 e).2; omega)
          have rB : DrawnAt wB W.heap.size gB n1 cB L1 := ⟨by simpa [flat] using hown, HLN.out, HLW.out, HLF.out⟩
          have k0npab : Below W.heap.size W wB := k0npa.grown hgrow k0npa.size (fun j e => by rw [own_G e]; exact rA.lt.1)
          have hp := hp.grown hgrow (fun e => hp.ne_row rA (own_G e.symm))
          have rN := rN.grown hgrow (fun e => nAN (own_G e.symm).symm)
          clear hown hgrow hnil rA nAN
          refine hK.out _ _ (HMK.out _ k0npab) (fun hHeld => ?_)
          clear hK K
          try go_frame
          refine wpAnyH_ready (rs := [8]) (by kernel_rfl) (by simp) ?_
          refine consL rfl (fun K hK => ?_) AllReadyH.nil
          refine step_append_own rfl (.tmp 73) (.tmp 75) 63 rfl W.heap.size 69 i0 _ 3 32 Try.underlying63 hi hz0 hz1 hz2 rfl (Nat.succ_pos 2) _ _ _ rfl rB.owns ⟨gN, 0, none⟩ 1 1 (flat [legZ]) rfl ?_ ?_ (flat_one _) ?_ ?_ ?_ ?_
          · rw [flat_len]; first | (rw [HLN.out]) | rfl
          · exact legs_news rN.legsAt
          · unfold maxLen; omega
          · omega
          · exact k0npab.size
          intro v' wC hown2 hgrow2 hnil2
          obtain ⟨gC, cC, rfl⟩ := row_form hown2 (fun e => by have := (hnil2.1 e).2; omega)
          have rC : DrawnAt wC W.heap.size gC (n1 + 1) cC (L1 ++ [legZ]) := ⟨by rw [flat_append]; exact hown2, by simp [HLN.out], fun e he => by rcases List.mem_append.1 he with h | h; exact HLW.out e h; exact rN.legs e h, fun e he => by rcases List.mem_append.1 he with h | h; exact HLF.out e h; exact rN.accts e h⟩
          have k0npabc : Below W.heap.size W wC := k0npab.grown hgrow2 k0npab.size (fun j e => by rw [own_G e]; exact rB.lt.1)
          have hp := hp.grown hgrow2 (fun e => hp.ne_row rB (own_G e.symm))
          clear hown2 hgrow2 hnil2 rB rN
          refine hK.out _ _ (HMK.out _ k0npabc) (fun hHeld => ?_)
          clear hK K
          try go_frame
          refine wpAnyH_takeL (i := 9) (v := ?_) rfl (by kernel_rfl) (by kernel_rfl) (by kernel_rfl) (fun _ _ _ h => h) (Or.inl ⟨by rfl, ?_⟩) hHeld ?_
          rotate_left
          · (intro w hSw; (try dsimp only at hSw); go_simp; try with_reducible rfl)
          try go_frame
          refine wpAnyH_ready (rs := [11]) (by kernel_rfl) (by simp) ?_
          refine consL rfl (fun K hK => ?_) AllReadyH.nil
          have s0 := hp.box.c0
          have s1 := hp.box.c1
          have t0 := hp.box.f0
          have t1 := hp.box.f1
          have zp := hp.lt
          go_simp
          have kz := (k0npabc.setCell (p := ⟨XC, 0, none⟩) hPw (.int .i64 id1)).setCell (p := ⟨XC, 1, none⟩) hPw (.slice (some ⟨gC, 0, none⟩) (n1 + 1) cC)
          have hq := (hp.set0 (.int .i64 id1)).set1 (.slice (some ⟨gC, 0, none⟩) (n1 + 1) cC)
          have rD := (rC.setCell (p := ⟨XC, 0, none⟩) (hp.ne_row rC) (.int .i64 id1)).setCell (p := ⟨XC, 1, none⟩) (hp.ne_row rC) (.slice (some ⟨gC, 0, none⟩) (n1 + 1) cC)
          clear s0 s1 t0 t1 zp
          refine hK.out _ _ (HMK.out _ kz) (fun hHeld => ?_)
          clear hK K
          try go_frame
          refine wpAnyH_done (by kernel_rfl) ?_ _
          go_wp2
          go_meet
          exact ⟨XC, gC, cC, rfl, hq, rD, hPw, kz⟩
      · go_simp
        have bn : Below wd.heap.size wd (wd.alloc (.cells #[.int .i64 0, .slice none 0 0] 65)) := (Below.refl _ _).alloc (Nat.le_refl _) _
        have hp := BoxH.new wd (.int .i64 0) (.slice none 0 0); have hPw := k0.size
        have k0p : Below W.heap.size W (wd.alloc (.cells #[.int .i64 0, .slice none 0 0] 65)) := k0.trans (bn.mono k0.size)
        generalize wd.alloc (.cells #[.int .i64 0, .slice none 0 0] 65) = wP at hp k0p bn  ⊢
        generalize wd.heap.size = XC at hp hPw ⊢
        clear bn
        refine hK.out _ _ (HMK.out _ k0p) (fun hHeld => ?_)
        clear hK K
        try go_frame
        refine wpAnyH_ready (rs := [2, 7]) (by kernel_rfl) (by simp) ?_
        refine consL rfl (fun K hK => ?_) (consL rfl (fun K hK => ?_) AllReadyH.nil)
        · go_simp
          have bn : Below wP.heap.size wP (wP.alloc (.cells #[] 69)) := (Below.refl _ _).alloc (Nat.le_refl _) _
          have rA := drawn_empty wP W.heap.size k0p.size
          have k0pa : Below W.heap.size W (wP.alloc (.cells #[] 69)) := k0p.trans (bn.mono k0p.size)
          have hp := hp.below bn
          generalize wP.alloc (.cells #[] 69) = wA at rA k0pa bn hp ⊢
          generalize wP.heap.size = gA at rA  ⊢
          clear bn
          refine hK.out _ _ (HMK.out _ k0pa) (fun hHeld => ?_)
          clear hK K
          try go_frame
          refine wpAnyH_ready (rs := [5, 7]) (by kernel_rfl) (by simp) ?_
          refine consL rfl (fun K hK => ?_) (consL rfl (fun K hK => ?_) AllReadyH.nil)
          · refine step_append_own rfl (.tmp 70) (.tmp 72) 63 rfl W.heap.size 69 i0 _ 3 32 Try.underlying63 hi hz0 hz1 hz2 rfl (Nat.succ_pos 2) _ _ _ rfl rA.owns ⟨g1, 0, none⟩ n1 c1 (flat L1) rfl ?_ ?_ (flat_one _) ?_ ?_ ?_ ?_
            · rw [flat_len]; first | (rw [HLN.out]) | rfl
            · exact legs_news (E1.out.keep k0pa)
            · unfold maxLen; omega
            · omega
            · exact k0pa.size
            intro v' wB hown hgrow hnil
            rw [Nat.zero_add] at hown
            obtain ⟨gB, cB, rfl⟩ := row_form hown (fun e => by have := (hnil.1 e).2; omega)
            have rB : DrawnAt wB W.heap.size gB n1 cB L1 := ⟨by simpa [flat] using hown, HLN.out, HLW.out, HLF.out⟩
            have k0pab : Below W.heap.size W wB := k0pa.grown hgrow k0pa.size (fun j e => by rw [own_G e]; exact rA.lt.1)
            have hp := hp.grown hgrow (fun e => hp.ne_row rA (own_G e.symm))
            clear hown hgrow hnil rA
            refine hK.out _ _ (HMK.out _ k0pab) (fun hHeld => ?_)
            clear hK K
            try go_frame
            refine wpAnyH_ready (rs := [7]) (by kernel_rfl) (by simp) ?_
            refine consL rfl (fun K hK => ?_) AllReadyH.nil
            go_simp
            have lB := rB.lt.2
            have bn : Below wB.heap.size wB (wB.alloc (.cells #[.string ⟨#[97]⟩, .int .i64 1, .int .i64 0] 69)) := (Below.refl _ _).alloc (Nat.le_refl _) _
            have rN := drawn_one wB W.heap.size k0pab.size
            have k0pabn : Below W.heap.size W (wB.alloc (.cells #[.string ⟨#[97]⟩, .int .i64 1, .int .i64 0] 69)) := k0pab.trans (bn.mono k0pab.size)
            have rB := rB.below bn
            have hp := hp.below bn
            have nBN : gB ≠ wB.heap.size := by omega
            clear lB
            generalize wB.alloc (.cells #[.string ⟨#[97]⟩, .int .i64 1, .int .i64 0] 69) = wN at rN k0pabn bn rB hp ⊢
            generalize wB.heap.size = gN at rN nBN ⊢
            clear bn
            refine hK.out _ _ (HMK.out _ k0pabn) (fun hHeld => ?_)
            clear hK K
            try go_frame
            refine wpAnyH_ready (rs := [8]) (by kernel_rfl) (by simp) ?_
            refine consL rfl (fun K hK => ?_) AllReadyH.nil
            refine step_append_own rfl (.tmp 73) (.tmp 75) 63 rfl W.heap.size 69 i0 _ 3 32 Try.underlying63 hi hz0 hz1 hz2 rfl (Nat.succ_pos 2) _ _ _ rfl rB.owns ⟨gN, 0, none⟩ 1 1 (flat [legZ]) rfl ?_ ?_ (flat_one _) ?_ ?_ ?_ ?_
            · rw [flat_len]; first | (rw [HLN.out]) | rfl
            · exact legs_news rN.legsAt
            · unfold maxLen; omega
            · omega
            · exact k0pabn.size
            intro v' wC hown2 hgrow2 hnil2
            obtain ⟨gC, cC, rfl⟩ := row_form hown2 (fun e => by have := (hnil2.1 e).2; omega)
            have rC : DrawnAt wC W.heap.size gC (n1 + 1) cC (L1 ++ [legZ]) := ⟨by rw [flat_append]; exact hown2, by simp [HLN.out], fun e he => by rcases List.mem_append.1 he with h | h; exact HLW.out e h; exact rN.legs e h, fun e he => by rcases List.mem_append.1 he with h | h; exact HLF.out e h; exact rN.accts e h⟩
            have k0pabnc : Below W.heap.size W wC := k0pabn.grown hgrow2 k0pabn.size (fun j e => by rw [own_G e]; exact rB.lt.1)
            have hp := hp.grown hgrow2 (fun e => hp.ne_row rB (own_G e.symm))
            clear hown2 hgrow2 hnil2 rB rN
            refine hK.out _ _ (HMK.out _ k0pabnc) (fun hHeld => ?_)
            clear hK K
            try go_frame
            refine wpAnyH_takeL (i := 9) (v := ?_) rfl (by kernel_rfl) (by kernel_rfl) (by kernel_rfl) (fun _ _ _ h => h) (Or.inl ⟨by rfl, ?_⟩) hHeld ?_
            rotate_left
            · (intro w hSw; (try dsimp only at hSw); go_simp; try with_reducible rfl)
            try go_frame
            refine wpAnyH_ready (rs := [11]) (by kernel_rfl) (by simp) ?_
            refine consL rfl (fun K hK => ?_) AllReadyH.nil
            have s0 := hp.box.c0
            have s1 := hp.box.c1
            have t0 := hp.box.f0
            have t1 := hp.box.f1
            have zp := hp.lt
            go_simp
            have kz := (k0pabnc.setCell (p := ⟨XC, 0, none⟩) hPw (.int .i64 id1)).setCell (p := ⟨XC, 1, none⟩) hPw (.slice (some ⟨gC, 0, none⟩) (n1 + 1) cC)
            have hq := (hp.set0 (.int .i64 id1)).set1 (.slice (some ⟨gC, 0, none⟩) (n1 + 1) cC)
            have rD := (rC.setCell (p := ⟨XC, 0, none⟩) (hp.ne_row rC) (.int .i64 id1)).setCell (p := ⟨XC, 1, none⟩) (hp.ne_row rC) (.slice (some ⟨gC, 0, none⟩) (n1 + 1) cC)
            clear s0 s1 t0 t1 zp
            refine hK.out _ _ (HMK.out _ kz) (fun hHeld => ?_)
            clear hK K
            try go_frame
            refine wpAnyH_done (by kernel_rfl) ?_ _
            go_wp2
            go_meet
            exact ⟨XC, gC, cC, rfl, hq, rD, hPw, kz⟩
          · go_simp
            have lA := rA.lt.2
            have bn : Below wA.heap.size wA (wA.alloc (.cells #[.string ⟨#[97]⟩, .int .i64 1, .int .i64 0] 69)) := (Below.refl _ _).alloc (Nat.le_refl _) _
            have rN := drawn_one wA W.heap.size k0pa.size
            have k0pan : Below W.heap.size W (wA.alloc (.cells #[.string ⟨#[97]⟩, .int .i64 1, .int .i64 0] 69)) := k0pa.trans (bn.mono k0pa.size)
            have rA := rA.below bn
            have hp := hp.below bn
            have nAN : gA ≠ wA.heap.size := by omega
            clear lA
            generalize wA.alloc (.cells #[.string ⟨#[97]⟩, .int .i64 1, .int .i64 0] 69) = wN at rN k0pan bn rA hp ⊢
            generalize wA.heap.size = gN at rN nAN ⊢
            clear bn
            refine hK.out _ _ (HMK.out _ k0pan) (fun hHeld => ?_)
            clear hK K
            try go_frame
            refine wpAnyH_ready (rs := [5]) (by kernel_rfl) (by simp) ?_
            refine consL rfl (fun K hK => ?_) AllReadyH.nil
            refine step_append_own rfl (.tmp 70) (.tmp 72) 63 rfl W.heap.size 69 i0 _ 3 32 Try.underlying63 hi hz0 hz1 hz2 rfl (Nat.succ_pos 2) _ _ _ rfl rA.owns ⟨g1, 0, none⟩ n1 c1 (flat L1) rfl ?_ ?_ (flat_one _) ?_ ?_ ?_ ?_
            · rw [flat_len]; first | (rw [HLN.out]) | rfl
            · exact legs_news (E1.out.keep k0pan)
            · unfold maxLen; omega
            · omega
            · exact k0pan.size
            intro v' wB hown hgrow hnil
            rw [Nat.zero_add] at hown
            obtain ⟨gB, cB, rfl⟩ := row_form hown (fun e => by have := (hnil.1 e).2; omega)
            have rB : DrawnAt wB W.heap.size gB n1 cB L1 := ⟨by simpa [flat] using hown, HLN.out, HLW.out, HLF.out⟩
            have k0panb : Below W.heap.size W wB := k0pan.grown hgrow k0pan.size (fun j e => by rw [own_G e]; exact rA.lt.1)
            have hp := hp.grown hgrow (fun e => hp.ne_row rA (own_G e.symm))
            have rN := rN.grown hgrow (fun e => nAN (own_G e.symm).symm)
            clear hown hgrow hnil rA nAN
            refine hK.out _ _ (HMK.out _ k0panb) (fun hHeld => ?_)
            clear hK K
            try go_frame
            refine wpAnyH_ready (rs := [8]) (by kernel_rfl) (by simp) ?_
            refine consL rfl (fun K hK => ?_) AllReadyH.nil
            refine step_append_own rfl (.tmp 73) (.tmp 75) 63 rfl W.heap.size 69 i0 _ 3 32 Try.underlying63 hi hz0 hz1 hz2 rfl (Nat.succ_pos 2) _ _ _ rfl rB.owns ⟨gN, 0, none⟩ 1 1 (flat [legZ]) rfl ?_ ?_ (flat_one _) ?_ ?_ ?_ ?_
            · rw [flat_len]; first | (rw [HLN.out]) | rfl
            · exact legs_news rN.legsAt
            · unfold maxLen; omega
            · omega
            · exact k0panb.size
            intro v' wC hown2 hgrow2 hnil2
            obtain ⟨gC, cC, rfl⟩ := row_form hown2 (fun e => by have := (hnil2.1 e).2; omega)
            have rC : DrawnAt wC W.heap.size gC (n1 + 1) cC (L1 ++ [legZ]) := ⟨by rw [flat_append]; exact hown2, by simp [HLN.out], fun e he => by rcases List.mem_append.1 he with h | h; exact HLW.out e h; exact rN.legs e h, fun e he => by rcases List.mem_append.1 he with h | h; exact HLF.out e h; exact rN.accts e h⟩
            have k0panbc : Below W.heap.size W wC := k0panb.grown hgrow2 k0panb.size (fun j e => by rw [own_G e]; exact rB.lt.1)
            have hp := hp.grown hgrow2 (fun e => hp.ne_row rB (own_G e.symm))
            clear hown2 hgrow2 hnil2 rB rN
            refine hK.out _ _ (HMK.out _ k0panbc) (fun hHeld => ?_)
            clear hK K
            try go_frame
            refine wpAnyH_takeL (i := 9) (v := ?_) rfl (by kernel_rfl) (by kernel_rfl) (by kernel_rfl) (fun _ _ _ h => h) (Or.inl ⟨by rfl, ?_⟩) hHeld ?_
            rotate_left
            · (intro w hSw; (try dsimp only at hSw); go_simp; try with_reducible rfl)
            try go_frame
            refine wpAnyH_ready (rs := [11]) (by kernel_rfl) (by simp) ?_
            refine consL rfl (fun K hK => ?_) AllReadyH.nil
            have s0 := hp.box.c0
            have s1 := hp.box.c1
            have t0 := hp.box.f0
            have t1 := hp.box.f1
            have zp := hp.lt
            go_simp
            have kz := (k0panbc.setCell (p := ⟨XC, 0, none⟩) hPw (.int .i64 id1)).setCell (p := ⟨XC, 1, none⟩) hPw (.slice (some ⟨gC, 0, none⟩) (n1 + 1) cC)
            have hq := (hp.set0 (.int .i64 id1)).set1 (.slice (some ⟨gC, 0, none⟩) (n1 + 1) cC)
            have rD := (rC.setCell (p := ⟨XC, 0, none⟩) (hp.ne_row rC) (.int .i64 id1)).setCell (p := ⟨XC, 1, none⟩) (hp.ne_row rC) (.slice (some ⟨gC, 0, none⟩) (n1 + 1) cC)
            clear s0 s1 t0 t1 zp
            refine hK.out _ _ (HMK.out _ kz) (fun hHeld => ?_)
            clear hK K
            try go_frame
            refine wpAnyH_done (by kernel_rfl) ?_ _
            go_wp2
            go_meet
            exact ⟨XC, gC, cC, rfl, hq, rD, hPw, kz⟩
        · go_simp
          have bn : Below wP.heap.size wP (wP.alloc (.cells #[.string ⟨#[97]⟩, .int .i64 1, .int .i64 0] 69)) := (Below.refl _ _).alloc (Nat.le_refl _) _
          have rN := drawn_one wP W.heap.size k0p.size
          have k0pn : Below W.heap.size W (wP.alloc (.cells #[.string ⟨#[97]⟩, .int .i64 1, .int .i64 0] 69)) := k0p.trans (bn.mono k0p.size)
          have hp := hp.below bn
          generalize wP.alloc (.cells #[.string ⟨#[97]⟩, .int .i64 1, .int .i64 0] 69) = wN at rN k0pn bn hp ⊢
          generalize wP.heap.size = gN at rN  ⊢
          clear bn
          refine hK.out _ _ (HMK.out _ k0pn) (fun hHeld => ?_)
          clear hK K
          try go_frame
          refine wpAnyH_ready (rs := [2]) (by kernel_rfl) (by simp) ?_
          refine consL rfl (fun K hK => ?_) AllReadyH.nil
          go_simp
          have lN := rN.lt.2
          have bn : Below wN.heap.size wN (wN.alloc (.cells #[] 69)) := (Below.refl _ _).alloc (Nat.le_refl _) _
          have rA := drawn_empty wN W.heap.size k0pn.size
          have k0pna : Below W.heap.size W (wN.alloc (.cells #[] 69)) := k0pn.trans (bn.mono k0pn.size)
          have rN := rN.below bn
          have hp := hp.below bn
          have nAN : wN.heap.size ≠ gN := by omega
          clear lN
          generalize wN.alloc (.cells #[] 69) = wA at rA k0pna bn rN hp ⊢
          generalize wN.heap.size = gA at rA nAN ⊢
          clear bn
          refine hK.out _ _ (HMK.out _ k0pna) (fun hHeld => ?_)
          clear hK K
          try go_frame
          refine wpAnyH_ready (rs := [5]) (by kernel_rfl) (by simp) ?_
          refine consL rfl (fun K hK => ?_) AllReadyH.nil
          refine step_append_own rfl (.tmp 70) (.tmp 72) 63 rfl W.heap.size 69 i0 _ 3 32 Try.underlying63 hi hz0 hz1 hz2 rfl (Nat.succ_pos 2) _ _ _ rfl rA.owns ⟨g1, 0, none⟩ n1 c1 (flat L1) rfl ?_ ?_ (flat_one _) ?_ ?_ ?_ ?_
          · rw [flat_len]; first | (rw [HLN.out]) | rfl
          · exact legs_news (E1.out.keep k0pna)
          · unfold maxLen; omega
          · omega
          · exact k0pna.size
          intro v' wB hown hgrow hnil
          rw [Nat.zero_add] at hown
          obtain ⟨gB, cB, rfl⟩ := row_form hown (fun e => by have := (hnil.1 e).2; omega)
          have rB : DrawnAt wB W.heap.size gB n1 cB L1 := ⟨by simpa [flat] using hown, HLN.out, HLW.out, HLF.out⟩
          have k0pnab : Below W.heap.size W wB := k0pna.grown hgrow k0pna.size (fun j e => by rw [own_G e]; exact rA.lt.1)
          have hp := hp.grown hgrow (fun e => hp.ne_row rA (own_G e.symm))
          have rN := rN.grown hgrow (fun e => nAN (own_G e.symm).symm)
          clear hown hgrow hnil rA nAN
          refine hK.out _ _ (HMK.out _ k0pnab) (fun hHeld => ?_)
          clear hK K
          try go_frame
          refine wpAnyH_ready (rs := [8]) (by kernel_rfl) (by simp) ?_
          refine consL rfl (fun K hK => ?_) AllReadyH.nil
          refine step_append_own rfl (.tmp 73) (.tmp 75) 63 rfl W.heap.size 69 i0 _ 3 32 Try.underlying63 hi hz0 hz1 hz2 rfl (Nat.succ_pos 2) _ _ _ rfl rB.owns ⟨gN, 0, none⟩ 1 1 (flat [legZ]) rfl ?_ ?_ (flat_one _) ?_ ?_ ?_ ?_
          · rw [flat_len]; first | (rw [HLN.out]) | rfl
          · exact legs_news rN.legsAt
          · unfold maxLen; omega
          · omega
          · exact k0pnab.size
          intro v' wC hown2 hgrow2 hnil2
          obtain ⟨gC, cC, rfl⟩ := row_form hown2 (fun e => by have := (hnil2.1 e).2; omega)
          have rC : DrawnAt wC W.heap.size gC (n1 + 1) cC (L1 ++ [legZ]) := ⟨by rw [flat_append]; exact hown2, by simp [HLN.out], fun e he => by rcases List.mem_append.1 he with h | h; exact HLW.out e h; exact rN.legs e h, fun e he => by rcases List.mem_append.1 he with h | h; exact HLF.out e h; exact rN.accts e h⟩
          have k0pnabc : Below W.heap.size W wC := k0pnab.grown hgrow2 k0pnab.size (fun j e => by rw [own_G e]; exact rB.lt.1)
          have hp := hp.grown hgrow2 (fun e => hp.ne_row rB (own_G e.symm))
          clear hown2 hgrow2 hnil2 rB rN
          refine hK.out _ _ (HMK.out _ k0pnabc) (fun hHeld => ?_)
          clear hK K
          try go_frame
          refine wpAnyH_takeL (i := 9) (v := ?_) rfl (by kernel_rfl) (by kernel_rfl) (by kernel_rfl) (fun _ _ _ h => h) (Or.inl ⟨by rfl, ?_⟩) hHeld ?_
          rotate_left
          · (intro w hSw; (try dsimp only at hSw); go_simp; try with_reducible rfl)
          try go_frame
          refine wpAnyH_ready (rs := [11]) (by kernel_rfl) (by simp) ?_
          refine consL rfl (fun K hK => ?_) AllReadyH.nil
          have s0 := hp.box.c0
          have s1 := hp.box.c1
          have t0 := hp.box.f0
          have t1 := hp.box.f1
          have zp := hp.lt
          go_simp
          have kz := (k0pnabc.setCell (p := ⟨XC, 0, none⟩) hPw (.int .i64 id1)).setCell (p := ⟨XC, 1, none⟩) hPw (.slice (some ⟨gC, 0, none⟩) (n1 + 1) cC)
          have hq := (hp.set0 (.int .i64 id1)).set1 (.slice (some ⟨gC, 0, none⟩) (n1 + 1) cC)
          have rD := (rC.setCell (p := ⟨XC, 0, none⟩) (hp.ne_row rC) (.int .i64 id1)).setCell (p := ⟨XC, 1, none⟩) (hp.ne_row rC) (.slice (some ⟨gC, 0, none⟩) (n1 + 1) cC)
          clear s0 s1 t0 t1 zp
          refine hK.out _ _ (HMK.out _ kz) (fun hHeld => ?_)
          clear hK K
          try go_frame
          refine wpAnyH_done (by kernel_rfl) ?_ _
          go_wp2
          go_meet
          exact ⟨XC, gC, cC, rfl, hq, rD, hPw, kz⟩
    case rest =>
      obtain ⟨V, rfl⟩ : ∃ V, V = wc := ⟨_, rfl⟩
      obtain ⟨YC, hC, dC, rfl, hY, hD, hYw, hb7⟩ := hcut
      have HY : Hid (BoxH V YC (.int .i64 id1) (.slice (some ⟨hC, 0, none⟩) (n1 + 1) dC)) := hY
      have HD : Hid (DrawnAt V W.heap.size hC (n1 + 1) dC (L1 ++ [legZ])) := hD
      have E1 : Hid (LegsAt V (some ⟨g1, 0, none⟩) n1 c1 L1) := E1.out.keep hb7
      have d0 := cell_later hb7 d0
      have d1 := cell_later hb7 d1
      have p0 := cell_later hb7 p0
      have p1 := cell_later hb7 p1
      have q0 := cell_later hb7 q0
      have q1 := cell_later hb7 q1
      have KW : Hid (Below w.heap.size w V) := KW.out.trans (hb7.mono KW.out.size)
      clear hY hD hYw k0 HMK hb7
      have k0 : Below V.heap.size V V.drew := (Below.refl _ V).drew
      have HMK : Hid (∀ w', Below V.heap.size V w' → (w'.cell? ⟨X3, 0, none⟩ = some (.int .i64 id1) ∧ w'.cell? ⟨X3, 1, none⟩ = some (.slice (some ⟨g1, 0, none⟩) n1 c1) ∧ X3 < w'.heap.size)) := fun w' kk => ⟨cell_later kk d0, cell_later kk d1, World.block_lt_of_cell? _ _ (cell_later kk d0)⟩
      go_upto_region 13 with fail
      go_cut [10] (fun s10 wx => ∃ (XC gC cC : Nat), s10 = .pointer (some ⟨XC, 0, none⟩) ∧ BoxH wx XC (.int .i64 id1) (.slice (some ⟨gC, 0, none⟩) (n1 + n1) cC) ∧ DrawnAt wx V.heap.size gC (n1 + n1) cC (L1 ++ L1) ∧ V.heap.size ≤ XC ∧ Below V.heap.size V wx)
      case first =>
        refine wp_region_held_drew (S := (fun w' => w'.cell? ⟨X3, 0, none⟩ = some (.int .i64 id1) ∧ w'.cell? ⟨X3, 1, none⟩ = some (.slice (some ⟨g1, 0, none⟩) n1 c1) ∧ X3 < w'.heap.size)) (by kernel_rfl) (HMK.out _ k0) (fun hHeld => ?_)
        generalize V.drew = wd at k0 hHeld ⊢
        refine wpAnyH_takeL (i := 0) (v := ?_) rfl (by kernel_rfl) (by kernel_rfl) (by kernel_rfl) (fun _ _ _ h => h) (Or.inl ⟨by rfl, ?_⟩) hHeld ?_
        rotate_left
        · (intro w hSw; (try dsimp only at hSw); go_simp; try with_reducible rfl)
        try go_frame
        refine wpAnyH_takeL (i := 1) (v := ?_) rfl (by kernel_rfl) (by kernel_rfl) (by kernel_rfl) (fun _ _ _ h => h) (Or.inl ⟨by rfl, ?_⟩) hHeld ?_
        rotate_left
        · (intro w hSw; (try dsimp only at hSw); go_simp; try with_reducible rfl)
        try go_frame
        refine wpAnyH_takeL (i := 3) (v := ?_) rfl (by kernel_rfl) (by kernel_rfl) (by kernel_rfl) (fun _ _ _ h => h) (Or.inl ⟨by rfl, ?_⟩) hHeld ?_
        rotate_left
        · (intro w hSw; (try dsimp only at hSw); go_simp; try with_reducible rfl)
        try go_frame
        refine wpAnyH_takeL (i := 4) (v := ?_) rfl (by kernel_rfl) (by kernel_rfl) (by kernel_rfl) (fun _ _ _ h => h) (Or.inl ⟨by rfl, ?_⟩) hHeld ?_
        rotate_left
        · (intro w hSw; (try dsimp only at hSw); go_simp; try with_reducible rfl)
        try go_frame
        refine wpAnyH_takeL (i := 6) (v := ?_) rfl (by kernel_rfl) (by kernel_rfl) (by kernel_rfl) (fun _ _ _ h => h) (Or.inl ⟨by rfl, ?_⟩) hHeld ?_
        rotate_left
        · (intro w hSw; (try dsimp only at hSw); go_simp; try with_reducible rfl)
        try go_frame
        refine wpAnyH_takeL (i := 7) (v := ?_) rfl (by kernel_rfl) (by kernel_rfl) (by kernel_rfl) (fun _ _ _ h => h) (Or.inl ⟨by rfl, ?_⟩) hHeld ?_
        rotate_left
        · (intro w hSw; (try dsimp only at hSw); go_simp; try with_reducible rfl)
        try go_frame
        refine wpAnyH_ready (rs := [2, 10]) (by kernel_rfl) (by simp) ?_
        refine consL rfl (fun K hK => ?_) (consL rfl (fun K hK => ?_) AllReadyH.nil)
        · go_simp
          have bn : Below wd.heap.size wd (wd.alloc (.cells #[] 69)) := (Below.refl _ _).alloc (Nat.le_refl _) _
          have rA := drawn_empty wd V.heap.size k0.size
          have k0a : Below V.heap.size V (wd.alloc (.cells #[] 69)) := k0.trans (bn.mono k0.size)
          generalize wd.alloc (.cells #[] 69) = wA at rA k0a bn  ⊢
          generalize wd.heap.size = gA at rA  ⊢
          clear bn
          refine hK.out _ _ (HMK.out _ k0a) (fun hHeld => ?_)
          clear hK K
          try go_frame
          refine wpAnyH_ready (rs := [5, 10]) (by kernel_rfl) (by simp) ?_
          refine consL rfl (fun K hK => ?_) (consL rfl (fun K hK => ?_) AllReadyH.nil)
          · refine step_append_own rfl (.tmp 80) (.tmp 82) 63 rfl V.heap.size 69 i0 _ 3 32 Try.underlying63 hi hz0 hz1 hz2 rfl (Nat.succ_pos 2) _ _ _ rfl rA.owns ⟨g1, 0, none⟩ n1 c1 (flat L1) rfl ?_ ?_ (flat_one _) ?_ ?_ ?_ ?_
            · rw [flat_len]; first | (rw [HLN.out]) | rfl
            · exact legs_news (E1.out.keep k0a)
            · unfold maxLen; omega
            · omega
            · exact k0a.size
            intro v' wB hown hgrow hnil
            rw [Nat.zero_add] at hown
            obtain ⟨gB, cB, rfl⟩ := row_form hown (fun e => by have := (hnil.1 e).2; omega)
            have rB : DrawnAt wB V.heap.size gB n1 cB L1 := ⟨by simpa [flat] using hown, HLN.out, HLW.out, HLF.out⟩
            have k0ab : Below V.heap.size V wB := k0a.grown hgrow k0a.size (fun j e => by rw [own_G e]; exact rA.lt.1)
            clear hown hgrow hnil rA
            refine hK.out _ _ (HMK.out _ k0ab) (fun hHeld => ?_)
            clear hK K
            try go_frame
            refine wpAnyH_ready (rs := [8, 10]) (by kernel_rfl) (by simp) ?_
            refine consL rfl (fun K hK => ?_) (consL rfl (fun K hK => ?_) AllReadyH.nil)
            · refine step_append_own rfl (.tmp 83) (.tmp 85) 63 rfl V.heap.size 69 i0 _ 3 32 Try.underlying63 hi hz0 hz1 hz2 rfl (Nat.succ_pos 2) _ _ _ rfl rB.owns ⟨g1, 0, none⟩ n1 c1 (flat L1) rfl ?_ ?_ (flat_one _) ?_ ?_ ?_ ?_
              · rw [flat_len]; first | (rw [HLN.out]) | rfl
              · exact legs_news (E1.out.keep k0ab)
              · unfold maxLen; omega
              · omega
              · exact k0ab.size
              intro v' wC hown2 hgrow2 hnil2
              obtain ⟨gC, cC, rfl⟩ := row_form hown2 (fun e => by have := (hnil2.1 e).2; omega)
              have rC : DrawnAt wC V.heap.size gC (n1 + n1) cC (L1 ++ L1) := ⟨by rw [flat_append]; exact hown2, by simp [HLN.out], fun e he => by rcases List.mem_append.1 he with h | h; exact HLW.out e h; exact HLW.out e h, fun e he => by rcases List.mem_append.1 he with h | h; exact HLF.out e h; exact HLF.out e h⟩
              have k0abc : Below V.heap.size V wC := k0ab.grown hgrow2 k0ab.size (fun j e => by rw [own_G e]; exact rB.lt.1)
              clear hown2 hgrow2 hnil2 rB
              refine hK.out _ _ (HMK.out _ k0abc) (fun hHeld => ?_)
              clear hK K
              try go_frame
              refine wpAnyH_takeL (i := 9) (v := ?_) rfl (by kernel_rfl) (by kernel_rfl) (by kernel_rfl) (fun _ _ _ h => h) (Or.inl ⟨by rfl, ?_⟩) hHeld ?_
              rotate_left
              · (intro w hSw; (try dsimp only at hSw); go_simp; try with_reducible rfl)
              try go_frame
              refine wpAnyH_ready (rs := [10]) (by kernel_rfl) (by simp) ?_
              refine consL rfl (fun K hK => ?_) AllReadyH.nil
              go_simp
              have bn : Below wC.heap.size wC (wC.alloc (.cells #[.int .i64 0, .slice none 0 0] 65)) := (Below.refl _ _).alloc (Nat.le_refl _) _
              have hp := BoxH.new wC (.int .i64 0) (.slice none 0 0); have hPw := k0abc.size
              have k0abcp : Below V.heap.size V (wC.alloc (.cells #[.int .i64 0, .slice none 0 0] 65)) := k0abc.trans (bn.mono k0abc.size)
              have rC := rC.below bn
              generalize wC.alloc (.cells #[.int .i64 0, .slice none 0 0] 65) = wP at hp k0abcp bn rC ⊢
              generalize wC.heap.size = XC at hp hPw ⊢
              clear bn
              refine hK.out _ _ (HMK.out _ k0abcp) (fun hHeld => ?_)
              clear hK K
              try go_frame
              refine wpAnyH_ready (rs := [11]) (by kernel_rfl) (by simp) ?_
              refine consL rfl (fun K hK => ?_) AllReadyH.nil
              have s0 := hp.box.c0
              have s1 := hp.box.c1
              have t0 := hp.box.f0
              have t1 := hp.box.f1
              have zp := hp.lt
              go_simp
              have kz := (k0abcp.setCell (p := ⟨XC, 0, none⟩) hPw (.int .i64 id1)).setCell (p := ⟨XC, 1, none⟩) hPw (.slice (some ⟨gC, 0, none⟩) (n1 + n1) cC)
              have hq := (hp.set0 (.int .i64 id1)).set1 (.slice (some ⟨gC, 0, none⟩) (n1 + n1) cC)
              have rD := (rC.setCell (p := ⟨XC, 0, none⟩) (hp.ne_row rC) (.int .i64 id1)).setCell (p := ⟨XC, 1, none⟩) (hp.ne_row rC) (.slice (some ⟨gC, 0, none⟩) (n1 + n1) cC)
              clear s0 s1 t0 t1 zp
              refine hK.out _ _ (HMK.out _ kz) (fun hHeld => ?_)
              clear hK K
              try go_frame
              refine wpAnyH_done (by kernel_rfl) ?_ _
              go_wp2
              go_meet
              exact ⟨XC, gC, cC, rfl, hq, rD, hPw, kz⟩
            · go_simp
              have lB := rB.lt.2
              have bn : Below wB.heap.size wB (wB.alloc (.cells #[.int .i64 0, .slice none 0 0] 65)) := (Below.refl _ _).alloc (Nat.le_refl _) _
              have hp := BoxH.new wB (.int .i64 0) (.slice none 0 0); have hPw := k0ab.size
              have k0abp : Below V.heap.size V (wB.alloc (.cells #[.int .i64 0, .slice none 0 0] 65)) := k0ab.trans (bn.mono k0ab.size)
              have rB := rB.below bn
              clear lB
              generalize wB.alloc (.cells #[.int .i64 0, .slice none 0 0] 65) = wP at hp k0abp bn rB ⊢
              generalize wB.heap.size = XC at hp hPw ⊢
              clear bn
              refine hK.out _ _ (HMK.out _ k0abp) (fun hHeld => ?_)
              clear hK K
              try go_frame
              refine wpAnyH_ready (rs := [8]) (by kernel_rfl) (by simp) ?_
              refine consL rfl (fun K hK => ?_) AllReadyH.nil
              refine step_append_own rfl (.tmp 83) (.tmp 85) 63 rfl V.heap.size 69 i0 _ 3 32 Try.underlying63 hi hz0 hz1 hz2 rfl (Nat.succ_pos 2) _ _ _ rfl rB.owns ⟨g1, 0, none⟩ n1 c1 (flat L1) rfl ?_ ?_ (flat_one _) ?_ ?_ ?_ ?_
              · rw [flat_len]; first | (rw [HLN.out]) | rfl
              · exact legs_news (E1.out.keep k0abp)
              · unfold maxLen; omega
              · omega
              · exact k0abp.size
              intro v' wC hown2 hgrow2 hnil2
              obtain ⟨gC, cC, rfl⟩ := row_form hown2 (fun e => by have := (hnil2.1 e).2; omega)
              have rC : DrawnAt wC V.heap.size gC (n1 + n1) cC (L1 ++ L1) := ⟨by rw [flat_append]; exact hown2, by simp [HLN.out], fun e he => by rcases List.mem_append.1 he with h | h; exact HLW.out e h; exact HLW.out e h, fun e he => by rcases List.mem_append.1 he with h | h; exact HLF.out e h; exact HLF.out e h⟩
              have k0abpc : Below V.heap.size V wC := k0abp.grown hgrow2 k0abp.size (fun j e => by rw [own_G e]; exact rB.lt.1)
              have hp := hp.grown hgrow2 (fun e => hp.ne_row rB (own_G e.symm))
              clear hown2 hgrow2 hnil2 rB
              refine hK.out _ _ (HMK.out _ k0abpc) (fun hHeld => ?_)
              clear hK K
              try go_frame
              refine wpAnyH_takeL (i := 9) (v := ?_) rfl (by kernel_rfl) (by kernel_rfl) (by kernel_rfl) (fun _ _ _ h => h) (Or.inl ⟨by rfl, ?_⟩) hHeld ?_
              rotate_left
              · (intro w hSw; (try dsimp only at hSw); go_simp; try with_reducible rfl)
              try go_frame
              refine wpAnyH_ready (rs := [11]) (by kernel_rfl) (by simp) ?_
              refine consL rfl (fun K hK => ?_) AllReadyH.nil
              have s0 := hp.box.c0
              have s1 := hp.box.c1
              have t0 := hp.box.f0
              have t1 := hp.box.f1
              have zp := hp.lt
              go_simp
              have kz := (k0abpc.setCell (p := ⟨XC, 0, none⟩) hPw (.int .i64 id1)).setCell (p := ⟨XC, 1, none⟩) hPw (.slice (some ⟨gC, 0, none⟩) (n1 + n1) cC)
              have hq := (hp.set0 (.int .i64 id1)).set1 (.slice (some ⟨gC, 0, none⟩) (n1 + n1) cC)
              have rD := (rC.setCell (p := ⟨XC, 0, none⟩) (hp.ne_row rC) (.int .i64 id1)).setCell (p := ⟨XC, 1, none⟩) (hp.ne_row rC) (.slice (some ⟨gC, 0, none⟩) (n1 + n1) cC)
              clear s0 s1 t0 t1 zp
              refine hK.out _ _ (HMK.out _ kz) (fun hHeld => ?_)
              clear hK K
              try go_frame
              refine wpAnyH_done (by kernel_rfl) ?_ _
              go_wp2
              go_meet
              exact ⟨XC, gC, cC, rfl, hq, rD, hPw, kz⟩
          · go_simp
            have lA := rA.lt.2
            have bn : Below wA.heap.size wA (wA.alloc (.cells #[.int .i64 0, .slice none 0 0] 65)) := (Below.refl _ _).alloc (Nat.le_refl _) _
            have hp := BoxH.new wA (.int .i64 0) (.slice none 0 0); have hPw := k0a.size
            have k0ap : Below V.heap.size V (wA.alloc (.cells #[.int .i64 0, .slice none 0 0] 65)) := k0a.trans (bn.mono k0a.size)
            have rA := rA.below bn
            clear lA
            generalize wA.alloc (.cells #[.int .i64 0, .slice none 0 0] 65) = wP at hp k0ap bn rA ⊢
            generalize wA.heap.size = XC at hp hPw ⊢
            clear bn
            refine hK.out _ _ (HMK.out _ k0ap) (fun hHeld => ?_)
            clear hK K
            try go_frame
            refine wpAnyH_ready (rs := [5]) (by kernel_rfl) (by simp) ?_
            refine consL rfl (fun K hK => ?_) AllReadyH.nil
            refine step_append_own rfl (.tmp 80) (.tmp 82) 63 rfl V.heap.size 69 i0 _ 3 32 Try.underlying63 hi hz0 hz1 hz2 rfl (Nat.succ_pos 2) _ _ _ rfl rA.owns ⟨g1, 0, none⟩ n1 c1 (flat L1) rfl ?_ ?_ (flat_one _) ?_ ?_ ?_ ?_
            · rw [flat_len]; first | (rw [HLN.out]) | rfl
            · exact legs_news (E1.out.keep k0ap)
            · unfold maxLen; omega
            · omega
            · exact k0ap.size
            intro v' wB hown hgrow hnil
            rw [Nat.zero_add] at hown
            obtain ⟨gB, cB, rfl⟩ := row_form hown (fun e => by have := (hnil.1 e).2; omega)
            have rB : DrawnAt wB V.heap.size gB n1 cB L1 := ⟨by simpa [flat] using hown, HLN.out, HLW.out, HLF.out⟩
            have k0apb : Below V.heap.size V wB := k0ap.grown hgrow k0ap.size (fun j e => by rw [own_G e]; exact rA.lt.1)
            have hp := hp.grown hgrow (fun e => hp.ne_row rA (own_G e.symm))
            clear hown hgrow hnil rA
            refine hK.out _ _ (HMK.out _ k0apb) (fun hHeld => ?_)
            clear hK K
            try go_frame
            refine wpAnyH_ready (rs := [8]) (by kernel_rfl) (by simp) ?_
            refine consL rfl (fun K hK => ?_) AllReadyH.nil
            refine step_append_own rfl (.tmp 83) (.tmp 85) 63 rfl V.heap.size 69 i0 _ 3 32 Try.underlying63 hi hz0 hz1 hz2 rfl (Nat.succ_pos 2) _ _ _ rfl rB.owns ⟨g1, 0, none⟩ n1 c1 (flat L1) rfl ?_ ?_ (flat_one _) ?_ ?_ ?_ ?_
            · rw [flat_len]; first | (rw [HLN.out]) | rfl
            · exact legs_news (E1.out.keep k0apb)
            · unfold maxLen; omega
            · omega
            · exact k0apb.size
            intro v' wC hown2 hgrow2 hnil2
            obtain ⟨gC, cC, rfl⟩ := row_form hown2 (fun e => by have := (hnil2.1 e).2; omega)
            have rC : DrawnAt wC V.heap.size gC (n1 + n1) cC (L1 ++ L1) := ⟨by rw [flat_append]; exact hown2, by simp [HLN.out], fun e he => by rcases List.mem_append.1 he with h | h; exact HLW.out e h; exact HLW.out e h, fun e he => by rcases List.mem_append.1 he with h | h; exact HLF.out e h; exact HLF.out e h⟩
            have k0apbc : Below V.heap.size V wC := k0apb.grown hgrow2 k0apb.size (fun j e => by rw [own_G e]; exact rB.lt.1)
            have hp := hp.grown hgrow2 (fun e => hp.ne_row rB (own_G e.symm))
            clear hown2 hgrow2 hnil2 rB
            refine hK.out _ _ (HMK.out _ k0apbc) (fun hHeld => ?_)
            clear hK K
            try go_frame
            refine wpAnyH_takeL (i := 9) (v := ?_) rfl (by kernel_rfl) (by kernel_rfl) (by kernel_rfl) (fun _ _ _ h => h) (Or.inl ⟨by rfl, ?_⟩) hHeld ?_
            rotate_left
            · (intro w hSw; (try dsimp only at hSw); go_simp; try with_reducible rfl)
            try go_frame
            refine wpAnyH_ready (rs := [11]) (by kernel_rfl) (by simp) ?_
            refine consL rfl (fun K hK => ?_) AllReadyH.nil
            have s0 := hp.box.c0
            have s1 := hp.box.c1
            have t0 := hp.box.f0
            have t1 := hp.box.f1
            have zp := hp.lt
            go_simp
            have kz := (k0apbc.setCell (p := ⟨XC, 0, none⟩) hPw (.int .i64 id1)).setCell (p := ⟨XC, 1, none⟩) hPw (.slice (some ⟨gC, 0, none⟩) (n1 + n1) cC)
            have hq := (hp.set0 (.int .i64 id1)).set1 (.slice (some ⟨gC, 0, none⟩) (n1 + n1) cC)
            have rD := (rC.setCell (p := ⟨XC, 0, none⟩) (hp.ne_row rC) (.int .i64 id1)).setCell (p := ⟨XC, 1, none⟩) (hp.ne_row rC) (.slice (some ⟨gC, 0, none⟩) (n1 + n1) cC)
            clear s0 s1 t0 t1 zp
            refine hK.out _ _ (HMK.out _ kz) (fun hHeld => ?_)
            clear hK K
            try go_frame
            refine wpAnyH_done (by kernel_rfl) ?_ _
            go_wp2
            go_meet
            exact ⟨XC, gC, cC, rfl, hq, rD, hPw, kz⟩
        · go_simp
          have bn : Below wd.heap.size wd (wd.alloc (.cells #[.int .i64 0, .slice none 0 0] 65)) := (Below.refl _ _).alloc (Nat.le_refl _) _
          have hp := BoxH.new wd (.int .i64 0) (.slice none 0 0); have hPw := k0.size
          have k0p : Below V.heap.size V (wd.alloc (.cells #[.int .i64 0, .slice none 0 0] 65)) := k0.trans (bn.mono k0.size)
          generalize wd.alloc (.cells #[.int .i64 0, .slice none 0 0] 65) = wP at hp k0p bn  ⊢
          generalize wd.heap.size = XC at hp hPw ⊢
          clear bn
          refine hK.out _ _ (HMK.out _ k0p) (fun hHeld => ?_)
          clear hK K
          try go_frame
          refine wpAnyH_ready (rs := [2]) (by kernel_rfl) (by simp) ?_
          refine consL rfl (fun K hK => ?_) AllReadyH.nil
          go_simp
          have bn : Below wP.heap.size wP (wP.alloc (.cells #[] 69)) := (Below.refl _ _).alloc (Nat.le_refl _) _
          have rA := drawn_empty wP V.heap.size k0p.size
          have k0pa : Below V.heap.size V (wP.alloc (.cells #[] 69)) := k0p.trans (bn.mono k0p.size)
          have hp := hp.below bn
          generalize wP.alloc (.cells #[] 69) = wA at rA k0pa bn hp ⊢
          generalize wP.heap.size = gA at rA  ⊢
          clear bn
          refine hK.out _ _ (HMK.out _ k0pa) (fun hHeld => ?_)
          clear hK K
          try go_frame
          refine wpAnyH_ready (rs := [5]) (by kernel_rfl) (by simp) ?_
          refine consL rfl (fun K hK => ?_) AllReadyH.nil
          refine step_append_own rfl (.tmp 80) (.tmp 82) 63 rfl V.heap.size 69 i0 _ 3 32 Try.underlying63 hi hz0 hz1 hz2 rfl (Nat.succ_pos 2) _ _ _ rfl rA.owns ⟨g1, 0, none⟩ n1 c1 (flat L1) rfl ?_ ?_ (flat_one _) ?_ ?_ ?_ ?_
          · rw [flat_len]; first | (rw [HLN.out]) | rfl
          · exact legs_news (E1.out.keep k0pa)
          · unfold maxLen; omega
          · omega
          · exact k0pa.size
          intro v' wB hown hgrow hnil
          rw [Nat.zero_add] at hown
          obtain ⟨gB, cB, rfl⟩ := row_form hown (fun e => by have := (hnil.1 e).2; omega)
          have rB : DrawnAt wB V.heap.size gB n1 cB L1 := ⟨by simpa [flat] using hown, HLN.out, HLW.out, HLF.out⟩
          have k0pab : Below V.heap.size V wB := k0pa.grown hgrow k0pa.size (fun j e => by rw [own_G e]; exact rA.lt.1)
          have hp := hp.grown hgrow (fun e => hp.ne_row rA (own_G e.symm))
          clear hown hgrow hnil rA
          refine hK.out _ _ (HMK.out _ k0pab) (fun hHeld => ?_)
          clear hK K
          try go_frame
          refine wpAnyH_ready (rs := [8]) (by kernel_rfl) (by simp) ?_
          refine consL rfl (fun K hK => ?_) AllReadyH.nil
          refine step_append_own rfl (.tmp 83) (.tmp 85) 63 rfl V.heap.size 69 i0 _ 3 32 Try.underlying63 hi hz0 hz1 hz2 rfl (Nat.succ_pos 2) _ _ _ rfl rB.owns ⟨g1, 0, none⟩ n1 c1 (flat L1) rfl ?_ ?_ (flat_one _) ?_ ?_ ?_ ?_
          · rw [flat_len]; first | (rw [HLN.out]) | rfl
          · exact legs_news (E1.out.keep k0pab)
          · unfold maxLen; omega
          · omega
          · exact k0pab.size
          intro v' wC hown2 hgrow2 hnil2
          obtain ⟨gC, cC, rfl⟩ := row_form hown2 (fun e => by have := (hnil2.1 e).2; omega)
          have rC : DrawnAt wC V.heap.size gC (n1 + n1) cC (L1 ++ L1) := ⟨by rw [flat_append]; exact hown2, by simp [HLN.out], fun e he => by rcases List.mem_append.1 he with h | h; exact HLW.out e h; exact HLW.out e h, fun e he => by rcases List.mem_append.1 he with h | h; exact HLF.out e h; exact HLF.out e h⟩
          have k0pabc : Below V.heap.size V wC := k0pab.grown hgrow2 k0pab.size (fun j e => by rw [own_G e]; exact rB.lt.1)
          have hp := hp.grown hgrow2 (fun e => hp.ne_row rB (own_G e.symm))
          clear hown2 hgrow2 hnil2 rB
          refine hK.out _ _ (HMK.out _ k0pabc) (fun hHeld => ?_)
          clear hK K
          try go_frame
          refine wpAnyH_takeL (i := 9) (v := ?_) rfl (by kernel_rfl) (by kernel_rfl) (by kernel_rfl) (fun _ _ _ h => h) (Or.inl ⟨by rfl, ?_⟩) hHeld ?_
          rotate_left
          · (intro w hSw; (try dsimp only at hSw); go_simp; try with_reducible rfl)
          try go_frame
          refine wpAnyH_ready (rs := [11]) (by kernel_rfl) (by simp) ?_
          refine consL rfl (fun K hK => ?_) AllReadyH.nil
          have s0 := hp.box.c0
          have s1 := hp.box.c1
          have t0 := hp.box.f0
          have t1 := hp.box.f1
          have zp := hp.lt
          go_simp
          have kz := (k0pabc.setCell (p := ⟨XC, 0, none⟩) hPw (.int .i64 id1)).setCell (p := ⟨XC, 1, none⟩) hPw (.slice (some ⟨gC, 0, none⟩) (n1 + n1) cC)
          have hq := (hp.set0 (.int .i64 id1)).set1 (.slice (some ⟨gC, 0, none⟩) (n1 + n1) cC)
          have rD := (rC.setCell (p := ⟨XC, 0, none⟩) (hp.ne_row rC) (.int .i64 id1)).setCell (p := ⟨XC, 1, none⟩) (hp.ne_row rC) (.slice (some ⟨gC, 0, none⟩) (n1 + n1) cC)
          clear s0 s1 t0 t1 zp
          refine hK.out _ _ (HMK.out _ kz) (fun hHeld => ?_)
          clear hK K
          try go_frame
          refine wpAnyH_done (by kernel_rfl) ?_ _
          go_wp2
          go_meet
          exact ⟨XC, gC, cC, rfl, hq, rD, hPw, kz⟩
      case rest =>
        obtain ⟨XD, gD, cD, rfl, hX, hR, hXw, hb8⟩ := hcut
        have s1 := hX.box.c1
        have zp := hX.lt
        have HX : Hid (BoxH wc XD (.int .i64 id1) (.slice (some ⟨gD, 0, none⟩) (n1 + n1) cD)) := hX
        have HRD : Hid (DrawnAt wc V.heap.size gD (n1 + n1) cD (L1 ++ L1)) := hR
        have HB8 : Hid (Below V.heap.size V wc) := hb8
        have HXW : Hid (V.heap.size ≤ XD) := hXw
        have hI : Hid (Try.prog.info? 69 = some i0) := hi
        clear hX hR hb8 hXw k0 HMK
        have y0 := (HY.out.below HB8.out).box.c0
        clear y0
        go_upto_region 15 with (at_builtin; refine wpList_append_lies _ rfl (.tmp 89) (.tmp 91) 63 rfl V.heap.size 69 i0 _ 3 32 Try.underlying63 hi hz0 hz1 hz2 rfl (by omega) _ (n1 + n1) _ rfl HRD.out.owns ⟨gD, 0, none⟩ (n1 + n1) cD (flat (L1 ++ L1)) rfl (by rw [flat_len, HRD.out.len]) (legs_news HRD.out.legsAt) (flat_one _) (by omega) (by unfold maxLen; omega) (by omega) HB8.out.size wc.heap.size rfl ?_; intro gE cE w9 hown hgrow hat hltg; have s9 := (HX.out.grown hgrow (fun e => HX.out.ne_row HRD.out (own_G e.symm))).box.c1; have t9 := (HX.out.grown hgrow (fun e => HX.out.ne_row HRD.out (own_G e.symm))).box.f1; have z9 := (HX.out.grown hgrow (fun e => HX.out.ne_row HRD.out (own_G e.symm))).lt)
        have hX9 := HX.out.grown hgrow (fun e => HX.out.ne_row HRD.out (own_G e.symm))
        have hR9 : DrawnAt w9 V.heap.size gE (n1 + n1 + (n1 + n1)) cE (L1 ++ L1 ++ (L1 ++ L1)) := ⟨by rw [flat_append (L1 ++ L1)]; exact hown, by simp [HLN.out]; omega, fun e he => by rcases List.mem_append.1 he with h | h <;> exact HRD.out.legs e h, fun e he => by rcases List.mem_append.1 he with h | h <;> exact HRD.out.accts e h⟩
        have kz : Below V.heap.size V (w9.setCell ⟨XD, 1, none⟩ (.slice (some ⟨gE, 0, none⟩) (n1 + n1 + (n1 + n1)) cE)) := (HB8.out.grown hgrow HB8.out.size (fun j e => by rw [own_G e]; exact HRD.out.lt.1)).setCell (p := ⟨XD, 1, none⟩) HXW.out _
        have hXz := hX9.set1 (.slice (some ⟨gE, 0, none⟩) (n1 + n1 + (n1 + n1)) cE)
        have hRz := hR9.setCell (p := ⟨XD, 1, none⟩) (hX9.ne_row hR9) (.slice (some ⟨gE, 0, none⟩) (n1 + n1 + (n1 + n1)) cE)
        obtain ⟨W9, hW9⟩ : ∃ W9, W9 = w9.setCell ⟨XD, 1, none⟩ (.slice (some ⟨gE, 0, none⟩) (n1 + n1 + (n1 + n1)) cE) := ⟨_, rfl⟩
        rw [← hW9] at kz hXz hRz
        try rw [← hW9]
        have d0 := cell_later kz d0
        have d1 := cell_later kz d1
        have p0 := cell_later kz p0
        have p1 := cell_later kz p1
        have q0 := cell_later kz q0
        have q1 := cell_later kz q1
        have y0 := (HY.out.below kz).box.c0
        have y1 := (HY.out.below kz).box.c1
        have v0 := hXz.box.c0
        have v1 := hXz.box.c1
        have E9 : Hid (LegsAt W9 (some ⟨g1, 0, none⟩) n1 c1 L1) := E1.out.keep kz
        have EC : Hid (LegsAt W9 (some ⟨hC, 0, none⟩) (n1 + 1) dC (L1 ++ [legZ])) := (HD.out.below kz).legsAt
        have ED : Hid (LegsAt W9 (some ⟨gE, 0, none⟩) (n1 + n1 + (n1 + n1)) cE (L1 ++ L1 ++ (L1 ++ L1))) := hRz.legsAt
        have K9 : Hid (Below w.heap.size w W9) := KW.out.trans (kz.mono KW.out.size)
        clear s1 zp s9 t9 z9 hX9 hR9 kz hXz hRz hown hgrow hat hltg HX HRD HB8 HXW HY HD E1 KW hW9 hi hz0 hz1 hz2 hI
        obtain ⟨M, hM⟩ : ∃ M, M = n1 + n1 + (n1 + n1) := ⟨_, rfl⟩
        rw [← hM] at v1 ED
        have HM : Hid (M = n1 + n1 + (n1 + n1)) := hM
        clear hM
        have CA : Hid (∀ w', Below W9.heap.size W9 w' → Calls Try.prog 44 #[.agg #[.int .i64 id1, .slice none 0 0]] w' fun e w'' => e = .returned (.bool false) ∧ Below w'.heap.size w' w'') := by rw [← bp_none id1]; exact fun w' k => implPostOk id1 _ _ _ [] w' (bp_nil w')
        have CB : Hid (∀ w', Below W9.heap.size W9 w' → Calls Try.prog 44 #[.agg #[.int .i64 100, .slice (some ⟨g1, 0, none⟩) n1 c1]] w' fun e w'' => e = .returned (.bool false) ∧ Below w'.heap.size w' w'') := by rw [← bp_id L1]; exact fun w' k => implPostOk 100 _ _ _ L1 w' (E9.out.keep k)
        have CC : Hid (∀ w', Below W9.heap.size W9 w' → Calls Try.prog 44 #[.agg #[.int .i64 id1, .slice (some ⟨hC, 0, none⟩) (n1 + 1) dC]] w' fun e w'' => e = .returned (.bool false) ∧ Below w'.heap.size w' w'') := by rw [← bp_zero id1 L1]; exact fun w' k => implPostOk id1 _ _ _ _ w' (EC.out.keep k)
        have CPB : Hid (∀ w', Below W9.heap.size W9 w' → Calls Try.prog 38 #[.agg #[.int .i64 id1, .slice (some ⟨g1, 0, none⟩) n1 c1], .agg #[.int .i64 100, .slice (some ⟨g1, 0, none⟩) n1 c1]] w' fun e w'' => e = .returned (.bool false) ∧ Below w'.heap.size w' w'') := by rw [← bp_sameid HI.out L1]; exact fun w' k => implSame _ _ _ _ _ _ _ _ L1 L1 w' (E9.out.keep k) (E9.out.keep k)
        have CPC : Hid (∀ w', Below W9.heap.size W9 w' → Calls Try.prog 38 #[.agg #[.int .i64 id1, .slice (some ⟨g1, 0, none⟩) n1 c1], .agg #[.int .i64 id1, .slice (some ⟨hC, 0, none⟩) (n1 + 1) dC]] w' fun e w'' => e = .returned (.bool false) ∧ Below w'.heap.size w' w'') := by rw [← bp_samemore id1 L1 legZ]; exact fun w' k => implSame _ _ _ _ _ _ _ _ L1 _ w' (E9.out.keep k) (EC.out.keep k)
        have HC : Hid (∀ w', Below W9.heap.size W9 w' → (w'.cell? ⟨X3, 0, none⟩ = some (.int .i64 id1) ∧ w'.cell? ⟨X3, 1, none⟩ = some (.slice (some ⟨g1, 0, none⟩) n1 c1) ∧ X3 < w'.heap.size ∧ w'.cell? ⟨X7, 0, none⟩ = some (.int .i64 id1) ∧ w'.cell? ⟨X7, 1, none⟩ = some (.slice none 0 0) ∧ X7 < w'.heap.size ∧ w'.cell? ⟨X8, 0, none⟩ = some (.int .i64 100) ∧ w'.cell? ⟨X8, 1, none⟩ = some (.slice (some ⟨g1, 0, none⟩) n1 c1) ∧ X8 < w'.heap.size ∧ w'.cell? ⟨YC, 0, none⟩ = some (.int .i64 id1) ∧ w'.cell? ⟨YC, 1, none⟩ = some (.slice (some ⟨hC, 0, none⟩) (n1 + 1) dC) ∧ YC < w'.heap.size ∧ w'.cell? ⟨XD, 0, none⟩ = some (.int .i64 id1) ∧ w'.cell? ⟨XD, 1, none⟩ = some (.slice (some ⟨gE, 0, none⟩) M cE) ∧ XD < w'.heap.size)) := fun w' kk => ⟨cell_later kk d0, cell_later kk d1, World.block_lt_of_cell? _ _ (cell_later kk d0), cell_later kk p0, cell_later kk p1, World.block_lt_of_cell? _ _ (cell_later kk p0), cell_later kk q0, cell_later kk q1, World.block_lt_of_cell? _ _ (cell_later kk q0), cell_later kk y0, cell_later kk y1, World.block_lt_of_cell? _ _ (cell_later kk y0), cell_later kk v0, cell_later kk v1, World.block_lt_of_cell? _ _ (cell_later kk v0)⟩
        clear d0 d1 p0 p1 q0 q1 y0 y1 v0 v1
        have ll0 : Below W9.heap.size W9 W9 := Below.refl _ _
        obtain ⟨d0, d1, dz, p0, p1, pz, q0, q1, qz, y0, y1, yz, v0, v1, vz⟩ := HC.out _ ll0
        go_wp2_with fail
        clear d0 d1 dz p0 p1 pz q0 q1 qz y0 y1 yz v0 v1 vz
        refine (CA.out _ ll0).mono ?_
        rintro e wv0 ⟨rfl, bv0⟩
        have ll1 : Below W9.heap.size W9 wv0 := ll0.trans (bv0.mono ll0.size)
        clear bv0
        obtain ⟨d0, d1, dz, p0, p1, pz, q0, q1, qz, y0, y1, yz, v0, v1, vz⟩ := HC.out _ ll1
        go_wp2_with fail
        clear d0 d1 dz p0 p1 pz q0 q1 qz y0 y1 yz v0 v1 vz
        refine (CB.out _ ll1).mono ?_
        rintro e wv1 ⟨rfl, bv1⟩
        have ll2 : Below W9.heap.size W9 wv1 := ll1.trans (bv1.mono ll1.size)
        clear bv1
        obtain ⟨d0, d1, dz, p0, p1, pz, q0, q1, qz, y0, y1, yz, v0, v1, vz⟩ := HC.out _ ll2
        go_wp2_with fail
        clear d0 d1 dz p0 p1 pz q0 q1 qz y0 y1 yz v0 v1 vz
        refine (CC.out _ ll2).mono ?_
        rintro e wv2 ⟨rfl, bv2⟩
        have ll3 : Below W9.heap.size W9 wv2 := ll2.trans (bv2.mono ll2.size)
        clear bv2
        by_cases hone : (M : Int) ≤ 4
        · skip
          obtain ⟨d0, d1, dz, p0, p1, pz, q0, q1, qz, y0, y1, yz, v0, v1, vz⟩ := HC.out _ ll3
          go_wp2_with fail
          clear d0 d1 dz p0 p1 pz q0 q1 qz y0 y1 yz v0 v1 vz
          refine (CPB.out _ ll3).mono ?_
          rintro e wv3 ⟨rfl, bv3⟩
          have ll4 : Below W9.heap.size W9 wv3 := ll3.trans (bv3.mono ll3.size)
          clear bv3
          obtain ⟨d0, d1, dz, p0, p1, pz, q0, q1, qz, y0, y1, yz, v0, v1, vz⟩ := HC.out _ ll4
          go_wp2_with fail
          clear d0 d1 dz p0 p1 pz q0 q1 qz y0 y1 yz v0 v1 vz
          refine (CPC.out _ ll4).mono ?_
          rintro e wv4 ⟨rfl, bv4⟩
          have ll5 : Below W9.heap.size W9 wv4 := ll4.trans (bv4.mono ll4.size)
          clear bv4
          go_wp2
          go_ret
          exact ⟨rfl, K9.out.trans (ll5.mono K9.out.size)⟩
        · skip
          have hgt : 4 < (L1 ++ L1 ++ (L1 ++ L1)).length := by have := HM.out; simp [HLN.out]; omega
          have CD : Hid (∀ w', Below W9.heap.size W9 w' → Calls Try.prog 44 #[.agg #[.int .i64 id1, .slice (some ⟨gE, 0, none⟩) M cE]] w' fun e w'' => e = .returned (.bool false) ∧ Below w'.heap.size w' w'') := by rw [← bp_many id1 hgt]; exact fun w' k => implPostOk id1 _ _ _ _ w' (ED.out.keep k)
          clear hgt
          obtain ⟨d0, d1, dz, p0, p1, pz, q0, q1, qz, y0, y1, yz, v0, v1, vz⟩ := HC.out _ ll3
          go_wp2_with fail
          clear d0 d1 dz p0 p1 pz q0 q1 qz y0 y1 yz v0 v1 vz
          refine (CD.out _ ll3).mono ?_
          rintro e wv3 ⟨rfl, bv3⟩
          have ll4 : Below W9.heap.size W9 wv3 := ll3.trans (bv3.mono ll3.size)
          clear bv3
          obtain ⟨d0, d1, dz, p0, p1, pz, q0, q1, qz, y0, y1, yz, v0, v1, vz⟩ := HC.out _ ll4
          go_wp2_with fail
          clear d0 d1 dz p0 p1 pz q0 q1 qz y0 y1 yz v0 v1 vz
          refine (CPB.out _ ll4).mono ?_
          rintro e wv4 ⟨rfl, bv4⟩
          have ll5 : Below W9.heap.size W9 wv4 := ll4.trans (bv4.mono ll4.size)
          clear bv4
          obtain ⟨d0, d1, dz, p0, p1, pz, q0, q1, qz, y0, y1, yz, v0, v1, vz⟩ := HC.out _ ll5
          go_wp2_with fail
          clear d0 d1 dz p0 p1 pz q0 q1 qz y0 y1 yz v0 v1 vz
          refine (CPC.out _ ll5).mono ?_
          rintro e wv5 ⟨rfl, bv5⟩
          have ll6 : Below W9.heap.size W9 wv5 := ll5.trans (bv5.mono ll5.size)
          clear bv5
          go_wp2
          go_ret
          exact ⟨rfl, K9.out.trans (ll6.mono K9.out.size)⟩
end Go.Proofs.Ytkeodfajgpbgaaa
