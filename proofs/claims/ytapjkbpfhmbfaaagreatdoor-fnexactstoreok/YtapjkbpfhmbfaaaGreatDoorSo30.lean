/-
  What the document's TreeOk answers at every tree, by a walk of its Go text.
-/
import Derived.Test.YtapjkbpfhmbfaaaGreatDoorSo29
import Derived.Test.YtapjkbpfhmbfaaaGreatDoorSo26
namespace Go.Proofs.YtapjkbpfhmbfaaaGreatDoor
open Go.RowKit
set_option maxRecDepth 100000
set_option maxHeartbeats 40000000
def levelsB (V : List (List RunD)) (q : Int) : Bool := match V with
  | [A, B, C] => runsB A 4 false q && (runsB B 8 true q && runsB C 8 true q)
  | _ => false
def treeB (q : Int) (M : List EntD) (V : List (List RunD)) (S : List Int) : Bool :=
  decide (0 ≤ q) && (decide (q ≤ 100000) && (decide (M.length ≤ 60) && (rightB M && (withinB M q && (decide (V.length = 3) && (snapsB S q && (levelsB V q && agedB (partsL M V))))))))
theorem runs_small {B : List RunD} {most : Int} {ap : Bool} {q : Int} (h : runsB B most ap q = true) (hm : most ≤ 8) : B.length ≤ 100 ∧ ∀ r ∈ B, 1 ≤ r.1.length ∧ r.1.length ≤ 10000 := by
  unfold runsB at h
  rw [Bool.and_eq_true] at h
  have h1 := of_decide_eq_true h.1
  refine ⟨by omega, fun r hr => ?_⟩
  obtain ⟨j, hj, rfl⟩ := List.getElem_of_mem hr
  have h2 := (List.all_eq_true.1 h.2) j (List.mem_range.2 hj)
  rw [runAt_some (List.getElem?_eq_getElem hj), Bool.and_eq_true] at h2
  have h3 := runB_parts h2.1
  omega
theorem tree_no {q : Int} {M : List EntD} {V : List (List RunD)} {S : List Int} (h : treeB q M V S = true → False) : treeB q M V S = false := by
  rw [Bool.eq_false_iff]
  exact h
theorem tree_parts {q : Int} {M : List EntD} {V : List (List RunD)} {S : List Int} (h : treeB q M V S = true) : 0 ≤ q ∧ q ≤ 100000 ∧ M.length ≤ 60 ∧ rightB M = true ∧ withinB M q = true ∧ V.length = 3 ∧ snapsB S q = true ∧ levelsB V q = true ∧ agedB (partsL M V) = true := by
  simpa [treeB] using h
theorem specTreeOk (lo : Nat) (sq : Int) (am av ak : Option Addr) (nm cm nv cv nk ck : Nat) (M : List EntD) (V : List (List RunD)) (S : List Int) (w : World) (hT : TreeIn lo w am nm cm av nv cv ak nk ck M V S) :
    Calls Tryz.prog 38 #[.agg #[.int .i64 sq, .slice am nm cm, .slice av nv cv, .slice ak nk ck]] w fun e w' => e = .returned (.bool (treeB sq M V S)) ∧ Below w.heap.size w w' := by
  have HT : Hid (TreeIn lo w am nm cm av nv cv ak nk ck M V S) := hT
  have HMN : Hid (M.length = nm) := hT.mem.1.length
  have HVN : Hid (V.length = nv) := hT.levels.length
  have hmb := hT.mem.1.big
  have hmr := hT.mem.1.room
  have hvb := hT.levels.big
  have hvr := hT.levels.room
  unfold maxLen at hmb hvb
  clear hT
  obtain ⟨X, hX⟩ : ∃ X, X = w.heap.size := ⟨_, rfl⟩
  obtain ⟨W, hW⟩ : ∃ W, W = w.alloc (.cells #[.int .i64 sq, .slice am nm cm, .slice av nv cv, .slice ak nk ck] 36) := ⟨_, rfl⟩
  have kW : Below w.heap.size w W := by rw [hW]; exact (Below.refl _ _).alloc (Nat.le_refl _) _
  have x0 : W.cell? ⟨X, 0, none⟩ = some (.int .i64 sq) := by rw [hW, hX]; simp
  have x1 : W.cell? ⟨X, 1, none⟩ = some (.slice am nm cm) := by rw [hW, hX]; simp
  have x2 : W.cell? ⟨X, 2, none⟩ = some (.slice av nv cv) := by rw [hW, hX]; simp
  have x3 : W.cell? ⟨X, 3, none⟩ = some (.slice ak nk ck) := by rw [hW, hX]; simp
  have zX := World.block_lt_of_cell? _ _ x0
  have HKW : Hid (Below w.heap.size w W) := kW
  go_enter Tryz.func38, Tryz.ntmps38
  go_upto_region 1 with fail
  rw [← hW, ← hX]
  clear hW hX kW
  by_cases h1 : sq < 0
  · have HN : Hid (treeB sq M V S = false) := tree_no (fun h => by have := (tree_parts h).1; omega)
    go_wp2
    go_ret
    exact ⟨ret_bool HN.out.symm, HKW.out⟩
  by_cases h2 : 100000 < sq
  · have HN : Hid (treeB sq M V S = false) := tree_no (fun h => by have := (tree_parts h).2.1; omega)
    go_wp2
    go_ret
    exact ⟨ret_bool HN.out.symm, HKW.out⟩
  by_cases h3 : 60 < nm
  · have HN : Hid (treeB sq M V S = false) := tree_no (fun h => by have := (tree_parts h).2.2.1; have := HMN.out; omega)
    have h3I : (60 : Int) < (nm : Int) := by omega
    go_wp2
    go_ret
    exact ⟨ret_bool HN.out.symm, HKW.out⟩
  have h3I : ¬ (60 : Int) < (nm : Int) := by omega
  obtain ⟨R, hR⟩ : ∃ R, R = rightB M := ⟨_, rfl⟩
  go_wp2_with fail
  refine (specRight am nm cm M _ (HT.out.mem.1.keep HKW.out)).mono ?_
  rw [← hR]
  rintro e w1 ⟨rfl, hb1⟩
  have x0 := cell_later hb1 x0
  have x1 := cell_later hb1 x1
  have x2 := cell_later hb1 x2
  have x3 := cell_later hb1 x3
  have zX := World.block_lt_of_cell? _ _ x0
  have K1 : Hid (Below w.heap.size w w1) := HKW.out.trans (hb1.mono HKW.out.size)
  clear hb1 HKW
  cases hRv : R with
  | false =>
    have HN : Hid (treeB sq M V S = false) := tree_no (fun h => by have h' := (tree_parts h).2.2.2.1; rw [← hR, hRv] at h'; cases h')
    go_wp2
    go_ret
    exact ⟨ret_bool HN.out.symm, K1.out⟩
  | true =>
  have HRV : Hid (rightB M = true) := by show _ = _; rw [← hR]; exact hRv
  clear hR hRv
  obtain ⟨I, hI⟩ : ∃ I, I = withinB M sq := ⟨_, rfl⟩
  go_wp2_with fail
  refine (specWithin am nm cm M sq _ (HT.out.mem.1.keep K1.out)).mono ?_
  rw [← hI]
  rintro e w1' ⟨rfl, rfl⟩
  cases hIv : I with
  | false =>
    have HN : Hid (treeB sq M V S = false) := tree_no (fun h => by have h' := (tree_parts h).2.2.2.2.1; rw [← hI, hIv] at h'; cases h')
    go_wp2
    go_ret
    exact ⟨ret_bool HN.out.symm, K1.out⟩
  | true =>
  have HIV : Hid (withinB M sq = true) := by show _ = _; rw [← hI]; exact hIv
  clear hI hIv
  by_cases h4 : ¬ nv = 3
  · have HN : Hid (treeB sq M V S = false) := tree_no (fun h => by have := (tree_parts h).2.2.2.2.2.1; have := HVN.out; omega)
    have h4I : ¬ (nv : Int) = 3 := by omega
    go_wp2
    go_ret
    exact ⟨ret_bool HN.out.symm, K1.out⟩
  have h4 : nv = 3 := by omega
  subst h4
  obtain ⟨N, hN⟩ : ∃ N, N = snapsB S sq := ⟨_, rfl⟩
  go_wp2_with fail
  refine (specSnaps sq lo _ _ ak nk ck S _ (HT.out.snaps.keep K1.out)).mono ?_
  rw [← hN]
  rintro e wr ⟨rfl, hb2⟩
  have x0 := cell_later hb2 x0
  have x1 := cell_later hb2 x1
  have x2 := cell_later hb2 x2
  have x3 := cell_later hb2 x3
  have zX := World.block_lt_of_cell? _ _ x0
  have KW : Hid (Below w.heap.size w wr) := K1.out.trans (hb2.mono K1.out.size)
  clear hb2 K1
  cases hNv : N with
  | false =>
    have HN : Hid (treeB sq M V S = false) := tree_no (fun h => by have h' := (tree_parts h).2.2.2.2.2.2.1; rw [← hN, hNv] at h'; cases h')
    go_wp2
    go_ret
    exact ⟨ret_bool HN.out.symm, KW.out⟩
  | true =>
  have HNV : Hid (snapsB S sq = true) := by show _ = _; rw [← hN]; exact hNv
  clear hN hNv
  obtain ⟨A, B, C, hV3⟩ : ∃ A B C, V = [A, B, C] := by
    have := HVN.out
    match V, this with
    | [A, B, C], _ => exact ⟨A, B, C, rfl⟩
  subst hV3
  obtain ⟨b, off, rfl, hbb⟩ := HT.out.levels.form (by omega)
  obtain ⟨A', a0, n0, c0, hA, l0, hR0⟩ := HT.out.levels.level (Below.refl _ w) 0 (by omega)
  obtain ⟨B', a1, n1, c1, hB, l1, hR1⟩ := HT.out.levels.level (Below.refl _ w) 1 (by omega)
  obtain ⟨C', a2, n2, c2, hC, l2, hR2⟩ := HT.out.levels.level (Below.refl _ w) 2 (by omega)
  simp only [List.getElem?_cons_zero, List.getElem?_cons_succ, Option.some.injEq] at hA hB hC
  subst hA hB hC
  rw [Nat.add_zero] at l0
  have l0 := cell_later KW.out l0
  have l1 := cell_later KW.out l1
  have l2 := cell_later KW.out l2
  have zb := Nat.lt_of_lt_of_le hbb KW.out.size
  have HMK : Hid (∀ w', Below wr.heap.size wr w' → (w'.cell? ⟨X, 0, none⟩ = some (.int .i64 sq) ∧ w'.cell? ⟨X, 1, none⟩ = some (.slice am nm cm) ∧ w'.cell? ⟨X, 2, none⟩ = some (.slice (some ⟨b, off, none⟩) 3 cv) ∧ w'.cell? ⟨X, 3, none⟩ = some (.slice ak nk ck) ∧ w'.cell? ⟨b, off, none⟩ = some (.slice a0 n0 c0) ∧ w'.cell? ⟨b, off + 1, none⟩ = some (.slice a1 n1 c1) ∧ w'.cell? ⟨b, off + 2, none⟩ = some (.slice a2 n2 c2) ∧ b < w'.heap.size ∧ X < w'.heap.size)) := fun w' kk => ⟨cell_later kk x0, cell_later kk x1, cell_later kk x2, cell_later kk x3, cell_later kk l0, cell_later kk l1, cell_later kk l2, Nat.lt_of_lt_of_le zb kk.size, Nat.lt_of_lt_of_le zX kk.size⟩
  have k0 : Below wr.heap.size wr wr.drew := (Below.refl _ wr).drew
  have HKK : Hid (∀ w', Below wr.heap.size wr w' → Below w.heap.size w w') := fun w' kk => KW.out.trans (kk.mono KW.out.size)
  have HTB : Hid (treeB sq M [A, B, C] S = (runsB A 4 false sq && (runsB B 8 true sq && (runsB C 8 true sq && agedB (partsL M [A, B, C]))))) := by
    show treeB sq M [A, B, C] S = _
    have e1 : decide (0 ≤ sq) = true := decide_eq_true (by omega)
    have e2 : decide (sq ≤ 100000) = true := decide_eq_true (by omega)
    have e3 : decide (M.length ≤ 60) = true := decide_eq_true (by rw [HMN.out]; omega)
    unfold treeB
    rw [e1, e2, e3, HRV.out, HIV.out, HNV.out]
    simp [levelsB, Bool.and_assoc]
  obtain ⟨V0, hV0⟩ : ∃ x, x = runsB A 4 false sq := ⟨_, rfl⟩
  obtain ⟨V1, hV1⟩ : ∃ x, x = runsB B 8 true sq := ⟨_, rfl⟩
  obtain ⟨V2, hV2⟩ : ∃ x, x = runsB C 8 true sq := ⟨_, rfl⟩
  obtain ⟨G, hG⟩ : ∃ x, x = agedB (partsL M [A, B, C]) := ⟨_, rfl⟩
  rw [← hV0, ← hV1, ← hV2, ← hG] at HTB
  have CR0 : Hid (∀ w', Below wr.heap.size wr w' → Calls Tryz.prog 77 #[.slice a0 n0 c0, .int .i64 4, .bool false, .int .i64 sq] w' fun e w'' => e = .returned (.bool V0) ∧ Below w'.heap.size w' w'') := fun w' k => by rw [hV0]; exact specRuns lo a0 n0 c0 A 4 false sq w' (hR0.keep (HKK.out w' k))
  have CR1 : Hid (∀ w', Below wr.heap.size wr w' → Calls Tryz.prog 77 #[.slice a1 n1 c1, .int .i64 8, .bool true, .int .i64 sq] w' fun e w'' => e = .returned (.bool V1) ∧ Below w'.heap.size w' w'') := fun w' k => by rw [hV1]; exact specRuns lo a1 n1 c1 B 8 true sq w' (hR1.keep (HKK.out w' k))
  have CR2 : Hid (∀ w', Below wr.heap.size wr w' → Calls Tryz.prog 77 #[.slice a2 n2 c2, .int .i64 8, .bool true, .int .i64 sq] w' fun e w'' => e = .returned (.bool V2) ∧ Below w'.heap.size w' w'') := fun w' k => by rw [hV2]; exact specRuns lo a2 n2 c2 C 8 true sq w' (hR2.keep (HKK.out w' k))
  have CAG : Hid (V0 = true → V1 = true → V2 = true → ∀ w', Below wr.heap.size wr w' → Calls Tryz.prog 78 #[.agg #[.int .i64 sq, .slice am nm cm, .slice (some ⟨b, off, none⟩) 3 cv, .slice ak nk ck]] w' fun e w'' => e = .returned (.bool G) ∧ Below w'.heap.size w' w'') := by
    intro e0 e1 e2 w' k
    rw [hG]
    refine specAged sq am _ ak nm cm 3 cv nk ck (partsL M [A, B, C]) w' (fun w1 k1 => ?_)
    have kw := HKK.out w' k
    refine specParts lo sq am _ ak nm cm 3 cv nk ck M [A, B, C] S w1 (HT.out.keep (kw.trans (k1.mono kw.size))) (by omega) (by omega) ?_
    intro D hD
    simp only [List.mem_cons, List.not_mem_nil, or_false] at hD
    rcases hD with rfl | rfl | rfl
    · exact runs_small (by rw [← hV0]; exact e0) (by omega)
    · exact runs_small (by rw [← hV1]; exact e1) (by omega)
    · exact runs_small (by rw [← hV2]; exact e2) (by omega)
  clear hV0 hV1 hV2 hG hR0 hR1 hR2 l0 l1 l2 x0 x1 x2 x3 zb HT HKK HVN HMN hbb
  cases V0 with
  | false =>
    have HN : Hid (treeB sq M [A, B, C] S = false) := by show _ = _; rw [HTB.out]; rfl
    clear CAG CR1 CR2 HTB
    go_wp2_with fail
    refine wp_region_held_drew (S := (fun w' => w'.cell? ⟨X, 0, none⟩ = some (.int .i64 sq) ∧ w'.cell? ⟨X, 1, none⟩ = some (.slice am nm cm) ∧ w'.cell? ⟨X, 2, none⟩ = some (.slice (some ⟨b, off, none⟩) 3 cv) ∧ w'.cell? ⟨X, 3, none⟩ = some (.slice ak nk ck) ∧ w'.cell? ⟨b, off, none⟩ = some (.slice a0 n0 c0) ∧ w'.cell? ⟨b, off + 1, none⟩ = some (.slice a1 n1 c1) ∧ w'.cell? ⟨b, off + 2, none⟩ = some (.slice a2 n2 c2) ∧ b < w'.heap.size ∧ X < w'.heap.size)) (by kernel_rfl) (HMK.out _ k0) (fun hHeld => ?_)
    refine tkL 0 hHeld ?_; try go_frame
    refine tkL 1 hHeld ?_; try go_frame
    refine tkL 2 hHeld ?_; try go_frame
    refine tkL 3 hHeld ?_; try go_frame
    refine tkL 4 hHeld ?_; try go_frame
    refine tkL 5 hHeld ?_; try go_frame
    refine wpAnyH_ready (rs := [6]) (by kernel_rfl) (by simp) ?_
    refine consL rfl (fun K hK => ?_) AllReadyH.nil
    go_simp
    refine (CR0.out _ k0).mono ?_
    rintro e wk1 ⟨rfl, bk1⟩
    have k1 : Below wr.heap.size wr wk1 := k0.trans (bk1.mono k0.size)
    go_wp2_with fail
    refine hK.out _ _ (HMK.out _ k1) (fun hHeld => ?_)
    clear hK K
    try go_frame
    refine tkL 7 hHeld ?_; try go_frame
    refine tkN 8 hHeld ?_; try go_frame
    refine tkN 9 hHeld ?_; try go_frame
    refine tkN 10 hHeld ?_; try go_frame
    refine tkN 11 hHeld ?_; try go_frame
    refine tkN 12 hHeld ?_; try go_frame
    refine tkN 13 hHeld ?_; try go_frame
    refine wpAnyH_ready (rs := [14]) (by kernel_rfl) (by simp) ?_
    refine consL rfl (fun K hK => ?_) AllReadyH.nil
    go_simp
    refine hK.out _ _ (HMK.out _ k1) (fun hHeld => ?_)
    clear hK K
    try go_frame
    refine tkL 15 hHeld ?_; try go_frame
    refine tkL 16 hHeld ?_; try go_frame
    refine tkN 17 hHeld ?_; try go_frame
    refine tkN 18 hHeld ?_; try go_frame
    refine tkN 19 hHeld ?_; try go_frame
    refine tkN 20 hHeld ?_; try go_frame
    refine tkN 21 hHeld ?_; try go_frame
    refine tkN 22 hHeld ?_; try go_frame
    refine wpAnyH_ready (rs := [23]) (by kernel_rfl) (by simp) ?_
    refine consL rfl (fun K hK => ?_) AllReadyH.nil
    go_simp
    refine hK.out _ _ (HMK.out _ k1) (fun hHeld => ?_)
    clear hK K
    try go_frame
    refine tkL 24 hHeld ?_; try go_frame
    refine tkL 25 hHeld ?_; try go_frame
    refine tkN 26 hHeld ?_; try go_frame
    refine wpAnyH_ready (rs := [27]) (by kernel_rfl) (by simp) ?_
    refine consL rfl (fun K hK => ?_) AllReadyH.nil
    go_simp
    refine hK.out _ _ (HMK.out _ k1) (fun hHeld => ?_)
    clear hK K
    try go_frame
    refine tkL 28 hHeld ?_; try go_frame
    refine tkL 29 hHeld ?_; try go_frame
    refine wpAnyH_done (by kernel_rfl) ?_ _
    have KY : Hid (Below w.heap.size w wk1) := KW.out.trans (k1.mono KW.out.size)
    clear k0 HMK hHeld
    go_wp2
    go_ret
    exact ⟨ret_bool HN.out.symm, KY.out⟩
  | true =>
  cases V1 with
  | false =>
    have HN : Hid (treeB sq M [A, B, C] S = false) := by show _ = _; rw [HTB.out]; rfl
    clear CAG CR2 HTB
    go_wp2_with fail
    refine wp_region_held_drew (S := (fun w' => w'.cell? ⟨X, 0, none⟩ = some (.int .i64 sq) ∧ w'.cell? ⟨X, 1, none⟩ = some (.slice am nm cm) ∧ w'.cell? ⟨X, 2, none⟩ = some (.slice (some ⟨b, off, none⟩) 3 cv) ∧ w'.cell? ⟨X, 3, none⟩ = some (.slice ak nk ck) ∧ w'.cell? ⟨b, off, none⟩ = some (.slice a0 n0 c0) ∧ w'.cell? ⟨b, off + 1, none⟩ = some (.slice a1 n1 c1) ∧ w'.cell? ⟨b, off + 2, none⟩ = some (.slice a2 n2 c2) ∧ b < w'.heap.size ∧ X < w'.heap.size)) (by kernel_rfl) (HMK.out _ k0) (fun hHeld => ?_)
    refine tkL 0 hHeld ?_; try go_frame
    refine tkL 1 hHeld ?_; try go_frame
    refine tkL 2 hHeld ?_; try go_frame
    refine tkL 3 hHeld ?_; try go_frame
    refine tkL 4 hHeld ?_; try go_frame
    refine tkL 5 hHeld ?_; try go_frame
    refine wpAnyH_ready (rs := [6]) (by kernel_rfl) (by simp) ?_
    refine consL rfl (fun K hK => ?_) AllReadyH.nil
    go_simp
    refine (CR0.out _ k0).mono ?_
    rintro e wk1 ⟨rfl, bk1⟩
    have k1 : Below wr.heap.size wr wk1 := k0.trans (bk1.mono k0.size)
    go_wp2_with fail
    refine hK.out _ _ (HMK.out _ k1) (fun hHeld => ?_)
    clear hK K
    try go_frame
    refine tkL 7 hHeld ?_; try go_frame
    refine tkL 8 hHeld ?_; try go_frame
    refine tkL 9 hHeld ?_; try go_frame
    refine tkL 10 hHeld ?_; try go_frame
    refine tkL 11 hHeld ?_; try go_frame
    refine tkL 12 hHeld ?_; try go_frame
    refine tkL 13 hHeld ?_; try go_frame
    refine wpAnyH_ready (rs := [14]) (by kernel_rfl) (by simp) ?_
    refine consL rfl (fun K hK => ?_) AllReadyH.nil
    go_simp
    refine (CR1.out _ k1).mono ?_
    rintro e wk2 ⟨rfl, bk2⟩
    have k2 : Below wr.heap.size wr wk2 := k1.trans (bk2.mono k1.size)
    go_wp2_with fail
    refine hK.out _ _ (HMK.out _ k2) (fun hHeld => ?_)
    clear hK K
    try go_frame
    refine tkL 15 hHeld ?_; try go_frame
    refine tkL 16 hHeld ?_; try go_frame
    refine tkN 17 hHeld ?_; try go_frame
    refine tkN 18 hHeld ?_; try go_frame
    refine tkN 19 hHeld ?_; try go_frame
    refine tkN 20 hHeld ?_; try go_frame
    refine tkN 21 hHeld ?_; try go_frame
    refine tkN 22 hHeld ?_; try go_frame
    refine wpAnyH_ready (rs := [23]) (by kernel_rfl) (by simp) ?_
    refine consL rfl (fun K hK => ?_) AllReadyH.nil
    go_simp
    refine hK.out _ _ (HMK.out _ k2) (fun hHeld => ?_)
    clear hK K
    try go_frame
    refine tkL 24 hHeld ?_; try go_frame
    refine tkL 25 hHeld ?_; try go_frame
    refine tkN 26 hHeld ?_; try go_frame
    refine wpAnyH_ready (rs := [27]) (by kernel_rfl) (by simp) ?_
    refine consL rfl (fun K hK => ?_) AllReadyH.nil
    go_simp
    refine hK.out _ _ (HMK.out _ k2) (fun hHeld => ?_)
    clear hK K
    try go_frame
    refine tkL 28 hHeld ?_; try go_frame
    refine tkL 29 hHeld ?_; try go_frame
    refine wpAnyH_done (by kernel_rfl) ?_ _
    have KY : Hid (Below w.heap.size w wk2) := KW.out.trans (k2.mono KW.out.size)
    clear k0 HMK hHeld
    go_wp2
    go_ret
    exact ⟨ret_bool HN.out.symm, KY.out⟩
  | true =>
  cases V2 with
  | false =>
    have HN : Hid (treeB sq M [A, B, C] S = false) := by show _ = _; rw [HTB.out]; rfl
    clear CAG HTB
    go_wp2_with fail
    refine wp_region_held_drew (S := (fun w' => w'.cell? ⟨X, 0, none⟩ = some (.int .i64 sq) ∧ w'.cell? ⟨X, 1, none⟩ = some (.slice am nm cm) ∧ w'.cell? ⟨X, 2, none⟩ = some (.slice (some ⟨b, off, none⟩) 3 cv) ∧ w'.cell? ⟨X, 3, none⟩ = some (.slice ak nk ck) ∧ w'.cell? ⟨b, off, none⟩ = some (.slice a0 n0 c0) ∧ w'.cell? ⟨b, off + 1, none⟩ = some (.slice a1 n1 c1) ∧ w'.cell? ⟨b, off + 2, none⟩ = some (.slice a2 n2 c2) ∧ b < w'.heap.size ∧ X < w'.heap.size)) (by kernel_rfl) (HMK.out _ k0) (fun hHeld => ?_)
    refine tkL 0 hHeld ?_; try go_frame
    refine tkL 1 hHeld ?_; try go_frame
    refine tkL 2 hHeld ?_; try go_frame
    refine tkL 3 hHeld ?_; try go_frame
    refine tkL 4 hHeld ?_; try go_frame
    refine tkL 5 hHeld ?_; try go_frame
    refine wpAnyH_ready (rs := [6]) (by kernel_rfl) (by simp) ?_
    refine consL rfl (fun K hK => ?_) AllReadyH.nil
    go_simp
    refine (CR0.out _ k0).mono ?_
    rintro e wk1 ⟨rfl, bk1⟩
    have k1 : Below wr.heap.size wr wk1 := k0.trans (bk1.mono k0.size)
    go_wp2_with fail
    refine hK.out _ _ (HMK.out _ k1) (fun hHeld => ?_)
    clear hK K
    try go_frame
    refine tkL 7 hHeld ?_; try go_frame
    refine tkL 8 hHeld ?_; try go_frame
    refine tkL 9 hHeld ?_; try go_frame
    refine tkL 10 hHeld ?_; try go_frame
    refine tkL 11 hHeld ?_; try go_frame
    refine tkL 12 hHeld ?_; try go_frame
    refine tkL 13 hHeld ?_; try go_frame
    refine wpAnyH_ready (rs := [14]) (by kernel_rfl) (by simp) ?_
    refine consL rfl (fun K hK => ?_) AllReadyH.nil
    go_simp
    refine (CR1.out _ k1).mono ?_
    rintro e wk2 ⟨rfl, bk2⟩
    have k2 : Below wr.heap.size wr wk2 := k1.trans (bk2.mono k1.size)
    go_wp2_with fail
    refine hK.out _ _ (HMK.out _ k2) (fun hHeld => ?_)
    clear hK K
    try go_frame
    refine tkL 15 hHeld ?_; try go_frame
    refine tkL 16 hHeld ?_; try go_frame
    refine tkL 17 hHeld ?_; try go_frame
    refine tkL 18 hHeld ?_; try go_frame
    refine tkL 19 hHeld ?_; try go_frame
    refine tkL 20 hHeld ?_; try go_frame
    refine tkL 21 hHeld ?_; try go_frame
    refine tkL 22 hHeld ?_; try go_frame
    refine wpAnyH_ready (rs := [23]) (by kernel_rfl) (by simp) ?_
    refine consL rfl (fun K hK => ?_) AllReadyH.nil
    go_simp
    refine (CR2.out _ k2).mono ?_
    rintro e wk3 ⟨rfl, bk3⟩
    have k3 : Below wr.heap.size wr wk3 := k2.trans (bk3.mono k2.size)
    go_wp2_with fail
    refine hK.out _ _ (HMK.out _ k3) (fun hHeld => ?_)
    clear hK K
    try go_frame
    refine tkL 24 hHeld ?_; try go_frame
    refine tkL 25 hHeld ?_; try go_frame
    refine tkN 26 hHeld ?_; try go_frame
    refine wpAnyH_ready (rs := [27]) (by kernel_rfl) (by simp) ?_
    refine consL rfl (fun K hK => ?_) AllReadyH.nil
    go_simp
    refine hK.out _ _ (HMK.out _ k3) (fun hHeld => ?_)
    clear hK K
    try go_frame
    refine tkL 28 hHeld ?_; try go_frame
    refine tkL 29 hHeld ?_; try go_frame
    refine wpAnyH_done (by kernel_rfl) ?_ _
    have KY : Hid (Below w.heap.size w wk3) := KW.out.trans (k3.mono KW.out.size)
    clear k0 HMK hHeld
    go_wp2
    go_ret
    exact ⟨ret_bool HN.out.symm, KY.out⟩
  | true =>
    have HN : Hid (treeB sq M [A, B, C] S = G) := by show _ = _; rw [HTB.out]; cases G <;> rfl
    have CAH : Hid (∀ w', Below wr.heap.size wr w' → Calls Tryz.prog 78 #[.agg #[.int .i64 sq, .slice am nm cm, .slice (some ⟨b, off, none⟩) 3 cv, .slice ak nk ck]] w' fun e w'' => e = .returned (.bool G) ∧ Below w'.heap.size w' w'') := CAG.out rfl rfl rfl
    clear HTB CAG
    go_wp2_with fail
    refine wp_region_held_drew (S := (fun w' => w'.cell? ⟨X, 0, none⟩ = some (.int .i64 sq) ∧ w'.cell? ⟨X, 1, none⟩ = some (.slice am nm cm) ∧ w'.cell? ⟨X, 2, none⟩ = some (.slice (some ⟨b, off, none⟩) 3 cv) ∧ w'.cell? ⟨X, 3, none⟩ = some (.slice ak nk ck) ∧ w'.cell? ⟨b, off, none⟩ = some (.slice a0 n0 c0) ∧ w'.cell? ⟨b, off + 1, none⟩ = some (.slice a1 n1 c1) ∧ w'.cell? ⟨b, off + 2, none⟩ = some (.slice a2 n2 c2) ∧ b < w'.heap.size ∧ X < w'.heap.size)) (by kernel_rfl) (HMK.out _ k0) (fun hHeld => ?_)
    refine tkL 0 hHeld ?_; try go_frame
    refine tkL 1 hHeld ?_; try go_frame
    refine tkL 2 hHeld ?_; try go_frame
    refine tkL 3 hHeld ?_; try go_frame
    refine tkL 4 hHeld ?_; try go_frame
    refine tkL 5 hHeld ?_; try go_frame
    refine wpAnyH_ready (rs := [6]) (by kernel_rfl) (by simp) ?_
    refine consL rfl (fun K hK => ?_) AllReadyH.nil
    go_simp
    refine (CR0.out _ k0).mono ?_
    rintro e wk1 ⟨rfl, bk1⟩
    have k1 : Below wr.heap.size wr wk1 := k0.trans (bk1.mono k0.size)
    go_wp2_with fail
    refine hK.out _ _ (HMK.out _ k1) (fun hHeld => ?_)
    clear hK K
    try go_frame
    refine tkL 7 hHeld ?_; try go_frame
    refine tkL 8 hHeld ?_; try go_frame
    refine tkL 9 hHeld ?_; try go_frame
    refine tkL 10 hHeld ?_; try go_frame
    refine tkL 11 hHeld ?_; try go_frame
    refine tkL 12 hHeld ?_; try go_frame
    refine tkL 13 hHeld ?_; try go_frame
    refine wpAnyH_ready (rs := [14]) (by kernel_rfl) (by simp) ?_
    refine consL rfl (fun K hK => ?_) AllReadyH.nil
    go_simp
    refine (CR1.out _ k1).mono ?_
    rintro e wk2 ⟨rfl, bk2⟩
    have k2 : Below wr.heap.size wr wk2 := k1.trans (bk2.mono k1.size)
    go_wp2_with fail
    refine hK.out _ _ (HMK.out _ k2) (fun hHeld => ?_)
    clear hK K
    try go_frame
    refine tkL 15 hHeld ?_; try go_frame
    refine tkL 16 hHeld ?_; try go_frame
    refine tkL 17 hHeld ?_; try go_frame
    refine tkL 18 hHeld ?_; try go_frame
    refine tkL 19 hHeld ?_; try go_frame
    refine tkL 20 hHeld ?_; try go_frame
    refine tkL 21 hHeld ?_; try go_frame
    refine tkL 22 hHeld ?_; try go_frame
    refine wpAnyH_ready (rs := [23]) (by kernel_rfl) (by simp) ?_
    refine consL rfl (fun K hK => ?_) AllReadyH.nil
    go_simp
    refine (CR2.out _ k2).mono ?_
    rintro e wk3 ⟨rfl, bk3⟩
    have k3 : Below wr.heap.size wr wk3 := k2.trans (bk3.mono k2.size)
    go_wp2_with fail
    refine hK.out _ _ (HMK.out _ k3) (fun hHeld => ?_)
    clear hK K
    try go_frame
    refine tkL 24 hHeld ?_; try go_frame
    refine tkL 25 hHeld ?_; try go_frame
    refine tkL 26 hHeld ?_; try go_frame
    refine wpAnyH_ready (rs := [27]) (by kernel_rfl) (by simp) ?_
    refine consL rfl (fun K hK => ?_) AllReadyH.nil
    go_simp
    refine (CAH.out _ k3).mono ?_
    rintro e wk4 ⟨rfl, bk4⟩
    have k4 : Below wr.heap.size wr wk4 := k3.trans (bk4.mono k3.size)
    go_wp2_with fail
    refine hK.out _ _ (HMK.out _ k4) (fun hHeld => ?_)
    clear hK K
    try go_frame
    refine tkL 28 hHeld ?_; try go_frame
    refine tkL 29 hHeld ?_; try go_frame
    refine wpAnyH_done (by kernel_rfl) ?_ _
    have KY : Hid (Below w.heap.size w wk4) := KW.out.trans (k4.mono KW.out.size)
    clear k0 HMK hHeld
    go_wp2
    go_ret
    exact ⟨ret_bool HN.out.symm, KY.out⟩
end Go.Proofs.YtapjkbpfhmbfaaaGreatDoor
