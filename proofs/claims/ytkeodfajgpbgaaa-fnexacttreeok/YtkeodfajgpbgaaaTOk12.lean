/-
  The program's isOk: what it answers at every tree; by a walk of its Go text.
-/
import Derived.Test.YtkeodfajgpbgaaaNewer
namespace Go.Proofs.Ytkeodfajgpbgaaa
open Go.RowKit

theorem tree_not {q : Int} {M : List EntD} {A B C : List RunD} {S : List Int} (h : ¬ (0 ≤ q ∧ q ≤ 100000 ∧ snapsB S q = true ∧ M.length ≤ 60 ∧ rightB M = true ∧ levelsI A B C = true ∧ newerB q (listsL M A B C).flatten = true)) : treeB q M [A, B, C] S = false := by
  rw [Bool.eq_false_iff]
  exact fun h' => h ((tree_impl q M A B C S).1 h')
theorem levels_small {A B C : List RunD} (h : levelsI A B C = true) : A.length ≤ 8 ∧ B.length ≤ 8 ∧ C.length ≤ 8 ∧ ∀ r, r ∈ A ∨ r ∈ B ∨ r ∈ C → r.1.length ≤ 150 := by
  unfold levelsI ok0 ok1 at h
  simp only [Bool.and_eq_true, decide_eq_true_eq, Bool.not_eq_true'] at h
  obtain ⟨⟨a1, a2⟩, ⟨b1, b2, _⟩, ⟨c1, c2, _⟩⟩ := h
  refine ⟨by omega, by omega, by omega, ?_⟩
  rintro r (hr | hr | hr)
  · exact (runB_parts (bad_all a2 r hr)).2.1
  · exact (runB_parts (bad_all b2 r hr)).2.1
  · exact (runB_parts (bad_all c2 r hr)).2.1
theorem lists_small {M : List EntD} {A B C : List RunD} (hM : M.length ≤ 60) (h : levelsI A B C = true) : ∀ l ∈ listsL M A B C, l.length ≤ 150 := by
  have hs := (levels_small h).2.2.2
  intro l hl
  unfold listsL at hl
  simp only [List.mem_cons, List.mem_append, List.mem_map, List.mem_reverse] at hl
  rcases hl with rfl | ⟨r, hr, rfl⟩ | ⟨r, hr, rfl⟩ | ⟨r, hr, rfl⟩
  · omega
  · exact hs r (.inl hr)
  · exact hs r (.inr (.inl hr))
  · exact hs r (.inr (.inr hr))

set_option maxRecDepth 100000 in
set_option maxHeartbeats 8000000 in
theorem implIsOk (lo : Nat) (q : Int) (am ak : Option Addr) (nm cm nk ck : Nat) (a0 a1 a2 : Option Addr) (n0 c0 n1 c1 n2 c2 : Nat) (M : List EntD) (A B C : List RunD) (S : List Int) (w : World) (hM : EntsAt w am nm cm M) (hS : IntsIn lo w ak nk ck S) (h0 : RunsIn lo w a0 n0 c0 A) (h1 : RunsIn lo w a1 n1 c1 B) (h2 : RunsIn lo w a2 n2 c2 C) :
    Calls Try.prog 145 #[.agg #[.int .i64 q, .slice am nm cm, .slice a0 n0 c0, .slice a1 n1 c1, .slice a2 n2 c2, .slice ak nk ck]] w fun e w' => e = .returned (.bool (treeB q M [A, B, C] S)) ∧ Below w.heap.size w w' := by
  have HMN : Hid (M.length = nm) := hM.length
  have HM : Hid (EntsAt w am nm cm M) := hM
  have HS : Hid (IntsIn lo w ak nk ck S) := hS
  have H0 : Hid (RunsIn lo w a0 n0 c0 A) := h0
  have H1 : Hid (RunsIn lo w a1 n1 c1 B) := h1
  have H2 : Hid (RunsIn lo w a2 n2 c2 C) := h2
  have HN : Hid (¬ (0 ≤ q ∧ q ≤ 100000 ∧ snapsB S q = true ∧ M.length ≤ 60 ∧ rightB M = true ∧ levelsI A B C = true ∧ newerB q (listsL M A B C).flatten = true) → treeB q M [A, B, C] S = false) := tree_not
  have HY : Hid (0 ≤ q → q ≤ 100000 → snapsB S q = true → M.length ≤ 60 → rightB M = true → levelsI A B C = true → newerB q (listsL M A B C).flatten = true → treeB q M [A, B, C] S = true) := fun e1 e2 e3 e4 e5 e6 e7 => (tree_impl q M A B C S).2 ⟨e1, e2, e3, e4, e5, e6, e7⟩
  clear hM hS h0 h1 h2
  obtain ⟨Z, hZ⟩ : ∃ Z, treeB q M [A, B, C] S = Z := ⟨_, rfl⟩
  rw [hZ] at HN HY ⊢
  clear hZ
  obtain ⟨W, hW⟩ : ∃ W, W = w.alloc (.cells #[.int .i64 q, .slice am nm cm, .slice a0 n0 c0, .slice a1 n1 c1, .slice a2 n2 c2, .slice ak nk ck] 115) := ⟨_, rfl⟩
  have kW : Below w.heap.size w W := by rw [hW]; exact (Below.refl _ _).alloc (Nat.le_refl _) _
  obtain ⟨X, hX⟩ : ∃ X, X = w.heap.size := ⟨_, rfl⟩
  have x0 : W.cell? ⟨X, 0, none⟩ = some (.int .i64 q) := by rw [hW, hX]; simp
  have x1 : W.cell? ⟨X, 1, none⟩ = some (.slice am nm cm) := by rw [hW, hX]; simp
  have x2 : W.cell? ⟨X, 2, none⟩ = some (.slice a0 n0 c0) := by rw [hW, hX]; simp
  have x3 : W.cell? ⟨X, 3, none⟩ = some (.slice a1 n1 c1) := by rw [hW, hX]; simp
  have x4 : W.cell? ⟨X, 4, none⟩ = some (.slice a2 n2 c2) := by rw [hW, hX]; simp
  have x5 : W.cell? ⟨X, 5, none⟩ = some (.slice ak nk ck) := by rw [hW, hX]; simp
  have zX := World.block_lt_of_cell? _ _ x0
  have KW : Hid (Below w.heap.size w W) := kW
  go_enter Try.func145, Try.ntmps145
  go_upto_region 1 with fail
  rw [← hW, ← hX]
  clear hW hX kW
  by_cases e1 : q < 0
  · have HF : Hid (Z = false) := HN.out (fun h => by have := h.1; omega)
    go_wp2
    go_ret
    exact ⟨ret_bool HF.out.symm, KW.out⟩
  by_cases e2 : 100000 < q
  · have HF : Hid (Z = false) := HN.out (fun h => by have := h.2.1; omega)
    go_wp2
    go_ret
    exact ⟨ret_bool HF.out.symm, KW.out⟩
  have e1' : 0 ≤ q := by omega
  have e2' : q ≤ 100000 := by omega
  obtain ⟨bS, hbS⟩ : ∃ b, b = snapsB S q := ⟨_, rfl⟩
  go_wp2_with fail
  refine (implSnaps lo ak nk ck S q W (HS.out.keep KW.out)).mono ?_
  rw [← hbS]
  rintro e w1 ⟨rfl, rfl⟩
  cases bS with
  | false =>
    have HF : Hid (Z = false) := HN.out (fun h => by have := h.2.2.1; rw [← hbS] at this; cases this)
    clear hbS
    go_wp2
    go_ret
    exact ⟨ret_bool HF.out.symm, KW.out⟩
  | true =>
  have HSV : Hid (snapsB S q = true) := hbS.symm
  clear hbS
  by_cases e3 : (60 : Int) < (nm : Int)
  · have HF : Hid (Z = false) := HN.out (fun h => by have := h.2.2.2.1; have := HMN.out; omega)
    go_wp2
    go_ret
    exact ⟨ret_bool HF.out.symm, KW.out⟩
  have e3' : (nm : Int) ≤ 60 := by omega
  obtain ⟨bR, hbR⟩ : ∃ b, b = rightB M := ⟨_, rfl⟩
  go_wp2_with fail
  refine (implRight am nm cm M _ (HM.out.keep KW.out)).mono ?_
  rw [← hbR]
  rintro e w2 ⟨rfl, hb2⟩
  have x0 := cell_later hb2 x0
  have x1 := cell_later hb2 x1
  have x2 := cell_later hb2 x2
  have x3 := cell_later hb2 x3
  have x4 := cell_later hb2 x4
  have x5 := cell_later hb2 x5
  have zX := World.block_lt_of_cell? _ _ x0
  have K2 : Hid (Below w.heap.size w w2) := KW.out.trans (hb2.mono KW.out.size)
  clear hb2 KW
  cases bR with
  | false =>
    have HF : Hid (Z = false) := HN.out (fun h => by have := h.2.2.2.2.1; rw [← hbR] at this; cases this)
    clear hbR
    go_wp2
    go_ret
    exact ⟨ret_bool HF.out.symm, K2.out⟩
  | true =>
  have HRV : Hid (rightB M = true) := hbR.symm
  clear hbR
  obtain ⟨bL, hbL⟩ : ∃ b, b = levelsI A B C := ⟨_, rfl⟩
  go_wp2_with fail
  refine (implLevels lo q am ak nm cm nk ck a0 a1 a2 n0 c0 n1 c1 n2 c2 A B C w2 (H0.out.keep K2.out) (H1.out.keep K2.out) (H2.out.keep K2.out)).mono ?_
  rw [← hbL]
  rintro e w3 ⟨rfl, hb3⟩
  have x0 := cell_later hb3 x0
  have x1 := cell_later hb3 x1
  have x2 := cell_later hb3 x2
  have x3 := cell_later hb3 x3
  have x4 := cell_later hb3 x4
  have x5 := cell_later hb3 x5
  have zX := World.block_lt_of_cell? _ _ x0
  have K3 : Hid (Below w.heap.size w w3) := K2.out.trans (hb3.mono K2.out.size)
  clear hb3 K2
  cases bL with
  | false =>
    have HF : Hid (Z = false) := HN.out (fun h => by have := h.2.2.2.2.2.1; rw [← hbL] at this; cases this)
    clear hbL
    go_wp2
    go_ret
    exact ⟨ret_bool HF.out.symm, K3.out⟩
  | true =>
  have HLV : Hid (levelsI A B C = true) := hbL.symm
  clear hbL
  have HSL : Hid (∀ l ∈ listsL M A B C, l.length ≤ 150) := lists_small (by have := HMN.out; omega) HLV.out
  have hs0 : n0 ≤ 8 := by have := H0.out.length; have := (levels_small HLV.out).1; omega
  have hs1 : n1 ≤ 8 := by have := H1.out.length; have := (levels_small HLV.out).2.1; omega
  have hs2 : n2 ≤ 8 := by have := H2.out.length; have := (levels_small HLV.out).2.2.1; omega
  obtain ⟨bN, hbN⟩ : ∃ b, b = newerB q (listsL M A B C).flatten := ⟨_, rfl⟩
  have HZ : Hid (Z = bN) := by
    cases bN with
    | false => exact HN.out (fun h => by have := h.2.2.2.2.2.2; rw [← hbN] at this; cases this)
    | true => exact HY.out e1' e2' HSV.out (by have := HMN.out; omega) HRV.out HLV.out hbN.symm
  go_wp2_with fail
  refine (callsIn_wide.1 (implNewer lo q am ak nm cm nk ck a0 a1 a2 n0 c0 n1 c1 n2 c2 M A B C w3 (HM.out.keep K3.out) (H0.out.keep K3.out) (H1.out.keep K3.out) (H2.out.keep K3.out) hs0 hs1 hs2 HSL.out)).mono ?_
  rw [← hbN]
  clear hbN
  rintro e w4 ⟨rfl, hb4⟩
  have K4 : Hid (Below w.heap.size w w4) := K3.out.trans (hb4.mono K3.out.size)
  clear hb4 K3
  go_wp2
  go_ret
  exact ⟨ret_bool HZ.out.symm, K4.out⟩
end Go.Proofs.Ytkeodfajgpbgaaa
