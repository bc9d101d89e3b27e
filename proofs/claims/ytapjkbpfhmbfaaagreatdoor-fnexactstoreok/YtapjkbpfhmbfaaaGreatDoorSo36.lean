/-
  The program's isOk: what it answers at every tree; by a walk of its Go text.
  The laws' own helpers: that two lists of runs, of levels, of numbers, two trees are the same, by walks of their Go text.
-/
import Derived.Test.YtapjkbpfhmbfaaaGreatDoorSo35
import Derived.Deep.QuietTactic
import Derived.BigQuiet
import Derived.Test.YtapjkbpfhmbfaaaGreatDoorSo34
namespace Go.Proofs.YtapjkbpfhmbfaaaGreatDoor
open Go.RowKit
set_option maxRecDepth 100000
set_option maxHeartbeats 8000000
theorem tree_not {q : Int} {M : List EntD} {A B C : List RunD} {S : List Int} (h : ¬ (0 ≤ q ∧ q ≤ 100000 ∧ snapsB S q = true ∧ M.length ≤ 60 ∧ rightB M = true ∧ levelsI A B C = true ∧ newerB q (listsL M A B C).flatten = true)) : treeB q M [A, B, C] S = false := by
  rw [Bool.eq_false_iff]
  exact fun h' => h ((tree_impl q M A B C S).1 h')
theorem levels_small {A B C : List RunD} (h : levelsI A B C = true) : A.length ≤ 8 ∧ B.length ≤ 8 ∧ C.length ≤ 8 ∧ ∀ r, r ∈ A ∨ r ∈ B ∨ r ∈ C → r.1.length ≤ 150 := by
  unfold levelsI ok0 ok1 at h
  simp only [Bool.and_eq_true, decide_eq_true_eq, Bool.not_eq_true'] at h
  obtain ⟨⟨a1, a2⟩, ⟨b1, b2, _⟩, ⟨c1, c2, _⟩⟩ := h
  refine ⟨by omega, by omega, by omega, ?_⟩
  rintro r (hr | hr | hr)
  · exact (runB_parts (bad_all a2 r hr)).2.1
  · exact (runB_parts (bad_all b2 r hr)).2.1
  · exact (runB_parts (bad_all c2 r hr)).2.1
theorem lists_small {M : List EntD} {A B C : List RunD} (hM : M.length ≤ 60) (h : levelsI A B C = true) : ∀ l ∈ listsL M A B C, l.length ≤ 150 := by
  have hs := (levels_small h).2.2.2
  intro l hl
  unfold listsL at hl
  simp only [List.mem_cons, List.mem_append, List.mem_map, List.mem_reverse] at hl
  rcases hl with rfl | ⟨r, hr, rfl⟩ | ⟨r, hr, rfl⟩ | ⟨r, hr, rfl⟩
  · omega
  · exact hs r (.inl hr)
  · exact hs r (.inr (.inl hr))
  · exact hs r (.inr (.inr hr))
theorem implIsOk (lo : Nat) (q : Int) (am ak : Option Addr) (nm cm nk ck : Nat) (a0 a1 a2 : Option Addr) (n0 c0 n1 c1 n2 c2 : Nat) (M : List EntD) (A B C : List RunD) (S : List Int) (w : World) (hM : EntsAt w am nm cm M) (hS : IntsIn lo w ak nk ck S) (h0 : RunsIn lo w a0 n0 c0 A) (h1 : RunsIn lo w a1 n1 c1 B) (h2 : RunsIn lo w a2 n2 c2 C) :
    Calls Tryz.prog 89 #[.agg #[.int .i64 q, .slice am nm cm, .slice a0 n0 c0, .slice a1 n1 c1, .slice a2 n2 c2, .slice ak nk ck]] w fun e w' => e = .returned (.bool (treeB q M [A, B, C] S)) ∧ Below w.heap.size w w' := by
  have HMN : Hid (M.length = nm) := hM.length
  have HM : Hid (EntsAt w am nm cm M) := hM
  have HS : Hid (IntsIn lo w ak nk ck S) := hS
  have H0 : Hid (RunsIn lo w a0 n0 c0 A) := h0
  have H1 : Hid (RunsIn lo w a1 n1 c1 B) := h1
  have H2 : Hid (RunsIn lo w a2 n2 c2 C) := h2
  have HN : Hid (¬ (0 ≤ q ∧ q ≤ 100000 ∧ snapsB S q = true ∧ M.length ≤ 60 ∧ rightB M = true ∧ levelsI A B C = true ∧ newerB q (listsL M A B C).flatten = true) → treeB q M [A, B, C] S = false) := tree_not
  have HY : Hid (0 ≤ q → q ≤ 100000 → snapsB S q = true → M.length ≤ 60 → rightB M = true → levelsI A B C = true → newerB q (listsL M A B C).flatten = true → treeB q M [A, B, C] S = true) := fun e1 e2 e3 e4 e5 e6 e7 => (tree_impl q M A B C S).2 ⟨e1, e2, e3, e4, e5, e6, e7⟩
  clear hM hS h0 h1 h2
  obtain ⟨Z, hZ⟩ : ∃ Z, treeB q M [A, B, C] S = Z := ⟨_, rfl⟩
  rw [hZ] at HN HY ⊢
  clear hZ
  obtain ⟨W, hW⟩ : ∃ W, W = w.alloc (.cells #[.int .i64 q, .slice am nm cm, .slice a0 n0 c0, .slice a1 n1 c1, .slice a2 n2 c2, .slice ak nk ck] 67) := ⟨_, rfl⟩
  have kW : Below w.heap.size w W := by rw [hW]; exact (Below.refl _ _).alloc (Nat.le_refl _) _
  obtain ⟨X, hX⟩ : ∃ X, X = w.heap.size := ⟨_, rfl⟩
  have x0 : W.cell? ⟨X, 0, none⟩ = some (.int .i64 q) := by rw [hW, hX]; simp
  have x1 : W.cell? ⟨X, 1, none⟩ = some (.slice am nm cm) := by rw [hW, hX]; simp
  have x2 : W.cell? ⟨X, 2, none⟩ = some (.slice a0 n0 c0) := by rw [hW, hX]; simp
  have x3 : W.cell? ⟨X, 3, none⟩ = some (.slice a1 n1 c1) := by rw [hW, hX]; simp
  have x4 : W.cell? ⟨X, 4, none⟩ = some (.slice a2 n2 c2) := by rw [hW, hX]; simp
  have x5 : W.cell? ⟨X, 5, none⟩ = some (.slice ak nk ck) := by rw [hW, hX]; simp
  have zX := World.block_lt_of_cell? _ _ x0
  have KW : Hid (Below w.heap.size w W) := kW
  go_enter Tryz.func89, Tryz.ntmps89
  go_upto_region 1 with fail
  rw [← hW, ← hX]
  clear hW hX kW
  by_cases e1 : q < 0
  · have HF : Hid (Z = false) := HN.out (fun h => by have := h.1; omega)
    go_wp2
    go_ret
    exact ⟨ret_bool HF.out.symm, KW.out⟩
  by_cases e2 : 100000 < q
  · have HF : Hid (Z = false) := HN.out (fun h => by have := h.2.1; omega)
    go_wp2
    go_ret
    exact ⟨ret_bool HF.out.symm, KW.out⟩
  have e1' : 0 ≤ q := by omega
  have e2' : q ≤ 100000 := by omega
  obtain ⟨bS, hbS⟩ : ∃ b, b = snapsB S q := ⟨_, rfl⟩
  go_wp2_with fail
  refine (implSnaps lo ak nk ck S q W (HS.out.keep KW.out)).mono ?_
  rw [← hbS]
  rintro e w1 ⟨rfl, rfl⟩
  cases bS with
  | false =>
    have HF : Hid (Z = false) := HN.out (fun h => by have := h.2.2.1; rw [← hbS] at this; cases this)
    clear hbS
    go_wp2
    go_ret
    exact ⟨ret_bool HF.out.symm, KW.out⟩
  | true =>
  have HSV : Hid (snapsB S q = true) := hbS.symm
  clear hbS
  by_cases e3 : (60 : Int) < (nm : Int)
  · have HF : Hid (Z = false) := HN.out (fun h => by have := h.2.2.2.1; have := HMN.out; omega)
    go_wp2
    go_ret
    exact ⟨ret_bool HF.out.symm, KW.out⟩
  have e3' : (nm : Int) ≤ 60 := by omega
  obtain ⟨bR, hbR⟩ : ∃ b, b = rightB M := ⟨_, rfl⟩
  go_wp2_with fail
  refine (implRight am nm cm M _ (HM.out.keep KW.out)).mono ?_
  rw [← hbR]
  rintro e w2 ⟨rfl, hb2⟩
  have x0 := cell_later hb2 x0
  have x1 := cell_later hb2 x1
  have x2 := cell_later hb2 x2
  have x3 := cell_later hb2 x3
  have x4 := cell_later hb2 x4
  have x5 := cell_later hb2 x5
  have zX := World.block_lt_of_cell? _ _ x0
  have K2 : Hid (Below w.heap.size w w2) := KW.out.trans (hb2.mono KW.out.size)
  clear hb2 KW
  cases bR with
  | false =>
    have HF : Hid (Z = false) := HN.out (fun h => by have := h.2.2.2.2.1; rw [← hbR] at this; cases this)
    clear hbR
    go_wp2
    go_ret
    exact ⟨ret_bool HF.out.symm, K2.out⟩
  | true =>
  have HRV : Hid (rightB M = true) := hbR.symm
  clear hbR
  obtain ⟨bL, hbL⟩ : ∃ b, b = levelsI A B C := ⟨_, rfl⟩
  go_wp2_with fail
  refine (implLevels lo q am ak nm cm nk ck a0 a1 a2 n0 c0 n1 c1 n2 c2 A B C w2 (H0.out.keep K2.out) (H1.out.keep K2.out) (H2.out.keep K2.out)).mono ?_
  rw [← hbL]
  rintro e w3 ⟨rfl, hb3⟩
  have x0 := cell_later hb3 x0
  have x1 := cell_later hb3 x1
  have x2 := cell_later hb3 x2
  have x3 := cell_later hb3 x3
  have x4 := cell_later hb3 x4
  have x5 := cell_later hb3 x5
  have zX := World.block_lt_of_cell? _ _ x0
  have K3 : Hid (Below w.heap.size w w3) := K2.out.trans (hb3.mono K2.out.size)
  clear hb3 K2
  cases bL with
  | false =>
    have HF : Hid (Z = false) := HN.out (fun h => by have := h.2.2.2.2.2.1; rw [← hbL] at this; cases this)
    clear hbL
    go_wp2
    go_ret
    exact ⟨ret_bool HF.out.symm, K3.out⟩
  | true =>
  have HLV : Hid (levelsI A B C = true) := hbL.symm
  clear hbL
  have HSL : Hid (∀ l ∈ listsL M A B C, l.length ≤ 150) := lists_small (by have := HMN.out; omega) HLV.out
  have hs0 : n0 ≤ 8 := by have := H0.out.length; have := (levels_small HLV.out).1; omega
  have hs1 : n1 ≤ 8 := by have := H1.out.length; have := (levels_small HLV.out).2.1; omega
  have hs2 : n2 ≤ 8 := by have := H2.out.length; have := (levels_small HLV.out).2.2.1; omega
  obtain ⟨bN, hbN⟩ : ∃ b, b = newerB q (listsL M A B C).flatten := ⟨_, rfl⟩
  have HZ : Hid (Z = bN) := by
    cases bN with
    | false => exact HN.out (fun h => by have := h.2.2.2.2.2.2; rw [← hbN] at this; cases this)
    | true => exact HY.out e1' e2' HSV.out (by have := HMN.out; omega) HRV.out HLV.out hbN.symm
  go_wp2_with fail
  refine (callsIn_wide.1 (implNewer lo q am ak nm cm nk ck a0 a1 a2 n0 c0 n1 c1 n2 c2 M A B C w3 (HM.out.keep K3.out) (H0.out.keep K3.out) (H1.out.keep K3.out) (H2.out.keep K3.out) hs0 hs1 hs2 HSL.out)).mono ?_
  rw [← hbN]
  clear hbN
  rintro e w4 ⟨rfl, hb4⟩
  have K4 : Hid (Below w.heap.size w w4) := K3.out.trans (hb4.mono K3.out.size)
  clear hb4 K3
  go_wp2
  go_ret
  exact ⟨ret_bool HZ.out.symm, K4.out⟩
end Go.Proofs.YtapjkbpfhmbfaaaGreatDoor

namespace Go.Proofs.YtapjkbpfhmbfaaaGreatDoor
open Go.RowKit
set_option maxHeartbeats 800000 in
theorem eqEntsOpt (a1 a2 : Option Addr) (len cap1 cap2 : Nat) (L : List EntD) (w : World) (h1 : EntsAt w a1 len cap1 L) (h2 : EntsAt w a2 len cap2 L) :
    Calls Tryz.prog 30 #[.slice a1 len cap1, .slice a2 len cap2] w fun e w' => e = .returned (.bool true) ∧ Below w.heap.size w w' := by
  by_cases h0 : len = 0
  · subst h0
    go_enter Tryz.func30, Tryz.ntmps30
    go_wp2
    go_loopw [5] (fun i wr => i = .int .i64 0 ∧ Below w.heap.size w wr) (fun i _ => 0)
    case atStart => exact ⟨rfl, Below.refl _ _⟩
    case round =>
      obtain ⟨rfl, hb⟩ := hrel
      go_wp2
      go_ret
      exact ⟨rfl, hb⟩
  · obtain ⟨b1, o1, rfl, _⟩ := h1.form (by omega)
    obtain ⟨b2, o2, rfl, _⟩ := h2.form (by omega)
    exact eqEntS_same _ _ _ _ _ _ _ L _ h1 h2
set_option maxHeartbeats 800000 in
theorem eqRun_opt (m : Int) (a1 a2 : Option Addr) (len cap1 cap2 : Nat) (L : List EntD) (w : World) (h1 : EntsAt w a1 len cap1 L) (h2 : EntsAt w a2 len cap2 L) :
    Calls Tryz.prog 198 #[.agg #[.slice a1 len cap1, .int .i64 m], .agg #[.slice a2 len cap2, .int .i64 m]] w fun e w' => e = .returned (.bool true) ∧ Below w.heap.size w w' := by
  have hB : Below w.heap.size w ((w.alloc (.cells #[.slice a1 len cap1, .int .i64 m] 135)).alloc (.cells #[.slice a2 len cap2, .int .i64 m] 135)) := ((Below.refl _ _).alloc (Nat.le_refl _) _).alloc (by simp) _
  go_enter Tryz.func198, Tryz.ntmps198
  go_wp2_with (go_at_call 30; refine (eqEntsOpt _ _ _ _ _ L _ (h1.keep hB) (h2.keep hB)).mono ?_; rintro e w1 ⟨rfl, hb1⟩; obtain ⟨hc1, hf1⟩ := bcell hb1)
  go_ret
  exact ⟨rfl, hB.trans (hb1.mono (by simp; omega))⟩
set_option maxHeartbeats 1600000 in
theorem eqRunS_opt (lo1 lo2 : Nat) (a1 a2 : Option Addr) (len cap1 cap2 : Nat) (B : List RunD) (w : World) (h1 : RunsIn lo1 w a1 len cap1 B) (h2 : RunsIn lo2 w a2 len cap2 B) :
    Calls Tryz.prog 147 #[.slice a1 len cap1, .slice a2 len cap2] w fun e w' => e = .returned (.bool true) ∧ Below w.heap.size w w' := by
  have hbl := h1.room
  have hbc := h1.big
  unfold maxLen at hbc
  have H1 : Hid (RunsIn lo1 w a1 len cap1 B) := h1
  have H2 : Hid (RunsIn lo2 w a2 len cap2 B) := h2
  clear h1 h2
  go_enter Tryz.func147, Tryz.ntmps147
  go_wp2
  go_loopw [5] (fun i wr => ∃ k : Nat, k ≤ len ∧ i = .int .i64 k ∧ Below w.heap.size w wr) (fun i _ => len - (intOf i).toNat)
  case atStart => exact ⟨0, Nat.zero_le _, rfl, Below.refl _ _⟩
  case round =>
    obtain ⟨k, hk, rfl, hb⟩ := hrel
    by_cases hlt : k < len
    · obtain ⟨b1, o1, rfl, hb1⟩ := H1.out.form (by omega)
      obtain ⟨b2, o2, rfl, hb2⟩ := H2.out.form (by omega)
      obtain ⟨L, m, s, n, c, hg, _, g0, g1, hLk⟩ := H1.out.run hb k hlt
      obtain ⟨L', m', s', n', c', hg', _, q0, q1, hLk'⟩ := H2.out.run hb k hlt
      rw [hg] at hg'
      cases hg'
      obtain rfl : n' = n := hLk'.1.length.symm.trans hLk.1.length
      have hb1' : b1 < wr.heap.size := Nat.lt_of_lt_of_le hb1 hb.size
      have hb2' : b2 < wr.heap.size := Nat.lt_of_lt_of_le hb2 hb.size
      have lk := hLk.1.keep ((Below.refl _ wr).drew)
      have lk' := hLk'.1.keep ((Below.refl _ wr).drew)
      clear hg hLk hLk'
      have hltI : (k : Int) < (len : Int) := by omega
      go_wp2_with fail
      go_region_with (go_at_call 198; refine (eqRun_opt _ _ _ _ _ _ L _ lk lk').mono ?_; rintro e w1 ⟨rfl, hb1⟩)
      all_goals
        go_wp2
        go_roundw
        case rel => exact ⟨k + 1, by omega, by go_num, hb.drew.trans (hb1.mono hb.size)⟩
        case measure => simp [intOf]; omega
    · go_wp2
      go_ret
      exact ⟨rfl, hb⟩
set_option maxHeartbeats 1600000 in
theorem eqRunSS_opt (lo1 lo2 : Nat) (a1 a2 : Option Addr) (len cap1 cap2 : Nat) (V : List (List RunD)) (w : World) (h1 : LevelsIn lo1 w a1 len cap1 V) (h2 : LevelsIn lo2 w a2 len cap2 V) :
    Calls Tryz.prog 94 #[.slice a1 len cap1, .slice a2 len cap2] w fun e w' => e = .returned (.bool true) ∧ Below w.heap.size w w' := by
  have hbl := h1.room
  have hbc := h1.big
  unfold maxLen at hbc
  have H1 : Hid (LevelsIn lo1 w a1 len cap1 V) := h1
  have H2 : Hid (LevelsIn lo2 w a2 len cap2 V) := h2
  clear h1 h2
  go_enter Tryz.func94, Tryz.ntmps94
  go_wp2
  go_loopw [5] (fun i wr => ∃ k : Nat, k ≤ len ∧ i = .int .i64 k ∧ Below w.heap.size w wr) (fun i _ => len - (intOf i).toNat)
  case atStart => exact ⟨0, Nat.zero_le _, rfl, Below.refl _ _⟩
  case round =>
    obtain ⟨k, hk, rfl, hb⟩ := hrel
    by_cases hlt : k < len
    · obtain ⟨b1, o1, rfl, hb1⟩ := H1.out.form (by omega)
      obtain ⟨b2, o2, rfl, hb2⟩ := H2.out.form (by omega)
      obtain ⟨B, s, n, c, hg, g0, hLk⟩ := H1.out.level hb k hlt
      obtain ⟨B', s', n', c', hg', q0, hLk'⟩ := H2.out.level hb k hlt
      rw [hg] at hg'
      cases hg'
      obtain rfl : n' = n := hLk'.length.symm.trans hLk.length
      have hb1' : b1 < wr.heap.size := Nat.lt_of_lt_of_le hb1 hb.size
      have hb2' : b2 < wr.heap.size := Nat.lt_of_lt_of_le hb2 hb.size
      have lk := hLk.keep ((Below.refl _ wr).drew)
      have lk' := hLk'.keep ((Below.refl _ wr).drew)
      clear hg hLk hLk'
      have hltI : (k : Int) < (len : Int) := by omega
      go_wp2_with fail
      go_region_with (go_at_call 147; refine (eqRunS_opt lo1 lo2 _ _ _ _ _ B _ lk lk').mono ?_; rintro e w1 ⟨rfl, hb1⟩)
      all_goals
        go_wp2
        go_roundw
        case rel => exact ⟨k + 1, by omega, by go_num, hb.drew.trans (hb1.mono hb.size)⟩
        case measure => simp [intOf]; omega
    · go_wp2
      go_ret
      exact ⟨rfl, hb⟩
set_option maxHeartbeats 1600000 in
theorem eqIntS_opt (lo1 lo2 : Nat) (a1 a2 : Option Addr) (len cap1 cap2 : Nat) (S : List Int) (w : World) (h1 : IntsIn lo1 w a1 len cap1 S) (h2 : IntsIn lo2 w a2 len cap2 S) :
    Calls Tryz.prog 95 #[.slice a1 len cap1, .slice a2 len cap2] w fun e w' => e = .returned (.bool true) ∧ Below w.heap.size w w' := by
  have hbl := h1.room
  have hbc := h1.big
  unfold maxLen at hbc
  have H1 : Hid (IntsIn lo1 w a1 len cap1 S) := h1
  have H2 : Hid (IntsIn lo2 w a2 len cap2 S) := h2
  clear h1 h2
  go_enter Tryz.func95, Tryz.ntmps95
  go_wp2
  go_loopw [5] (fun i wr => ∃ k : Nat, k ≤ len ∧ i = .int .i64 k ∧ Below w.heap.size w wr) (fun i _ => len - (intOf i).toNat)
  case atStart => exact ⟨0, Nat.zero_le _, rfl, Below.refl _ _⟩
  case round =>
    obtain ⟨k, hk, rfl, hb⟩ := hrel
    by_cases hlt : k < len
    · obtain ⟨b1, o1, rfl, hb1⟩ := H1.out.form (by omega)
      obtain ⟨b2, o2, rfl, hb2⟩ := H2.out.form (by omega)
      obtain ⟨q, hg, _, g0⟩ := H1.out.num hb k hlt
      obtain ⟨q', hg', _, q0⟩ := H2.out.num hb k hlt
      rw [hg] at hg'
      cases hg'
      have hb1' : b1 < wr.heap.size := Nat.lt_of_lt_of_le hb1 hb.size
      have hb2' : b2 < wr.heap.size := Nat.lt_of_lt_of_le hb2 hb.size
      clear hg
      have hltI : (k : Int) < (len : Int) := by omega
      go_wp2_with fail
      go_quiet (fail)
      go_wp2
      go_roundw
      case rel => exact ⟨k + 1, by omega, by go_num, below_drewN hb _⟩
      case measure => simp [intOf]; omega
    · go_wp2
      go_ret
      exact ⟨rfl, hb⟩
set_option maxHeartbeats 800000 in
theorem eqTree_opt (q : Int) (lo1 lo2 : Nat) (am av ak : Option Addr) (nm cm nv cv ns cs : Nat) (am' av' ak' : Option Addr) (cm' cv' cs' : Nat) (M : List EntD) (V : List (List RunD)) (S : List Int) (w : World) (h1 : TreeIn lo1 w am nm cm av nv cv ak ns cs M V S) (h2 : TreeIn lo2 w am' nm cm' av' nv cv' ak' ns cs' M V S) :
    Calls Tryz.prog 45 #[.agg #[.int .i64 q, .slice am nm cm, .slice av nv cv, .slice ak ns cs], .agg #[.int .i64 q, .slice am' nm cm', .slice av' nv cv', .slice ak' ns cs']] w fun e w' => e = .returned (.bool true) ∧ Below w.heap.size w w' := by
  obtain ⟨W, hW⟩ : ∃ W, W = (w.alloc (.cells #[.int .i64 q, .slice am nm cm, .slice av nv cv, .slice ak ns cs] 36)).alloc (.cells #[.int .i64 q, .slice am' nm cm', .slice av' nv cv', .slice ak' ns cs'] 36) := ⟨_, rfl⟩
  have hB : Below w.heap.size w W := by rw [hW]; exact ((Below.refl _ _).alloc (Nat.le_refl _) _).alloc (by simp) _
  have x2 : W.cell? ⟨w.heap.size, 2, none⟩ = some (.slice av nv cv) := by rw [hW]; simp
  have x3 : W.cell? ⟨w.heap.size, 3, none⟩ = some (.slice ak ns cs) := by rw [hW]; simp
  have y2 : W.cell? ⟨w.heap.size + 1, 2, none⟩ = some (.slice av' nv cv') := by rw [hW]; simp
  have y3 : W.cell? ⟨w.heap.size + 1, 3, none⟩ = some (.slice ak' ns cs') := by rw [hW]; simp
  have H1 : Hid (TreeIn lo1 W am nm cm av nv cv ak ns cs M V S) := h1.keep hB
  have H2 : Hid (TreeIn lo2 W am' nm cm' av' nv cv' ak' ns cs' M V S) := h2.keep hB
  have HB : Hid (Below w.heap.size w W) := hB
  clear h1 h2 hB
  go_enter Tryz.func45, Tryz.ntmps45
  go_wp2_with fail
  rw [← hW]
  clear hW
  refine (eqEntsOpt _ _ _ _ _ M _ H1.out.mem.1 H2.out.mem.1).mono ?_
  rintro e w1 ⟨rfl, hb1⟩
  have x2 := cell_later hb1 x2
  have x3 := cell_later hb1 x3
  have y2 := cell_later hb1 y2
  have y3 := cell_later hb1 y3
  have z1 := World.block_lt_of_cell? _ _ x2
  have z2 := World.block_lt_of_cell? _ _ y2
  simp only at z1 z2
  have K1 : Hid (Below W.heap.size W w1) := hb1
  clear hb1
  go_wp2_with fail
  refine (eqRunSS_opt lo1 lo2 _ _ _ _ _ V _ (H1.out.keep K1.out).levels (H2.out.keep K1.out).levels).mono ?_
  rintro e w2 ⟨rfl, hb2⟩
  have x3 := cell_later hb2 x3
  have y3 := cell_later hb2 y3
  have z1 := World.block_lt_of_cell? _ _ x3
  have z2 := World.block_lt_of_cell? _ _ y3
  simp only at z1 z2
  have K2 : Hid (Below W.heap.size W w2) := K1.out.trans (hb2.mono K1.out.size)
  clear hb2 K1
  go_wp2_with fail
  refine (eqIntS_opt lo1 lo2 _ _ _ _ _ S _ (H1.out.keep K2.out).snaps (H2.out.keep K2.out).snaps).mono ?_
  rintro e w3 ⟨rfl, hb3⟩
  have K3 : Hid (Below W.heap.size W w3) := K2.out.trans (hb3.mono K2.out.size)
  clear hb3 K2
  go_wp2
  go_ret
  exact ⟨rfl, HB.out.trans (K3.out.mono HB.out.size)⟩
def SmallT (M : List EntD) (V : List (List RunD)) (S : List Int) : Prop := M.length ≤ 1048576 ∧ SmallV V ∧ S.length ≤ 1048576
set_option maxHeartbeats 800000 in
theorem szTree_any (q : Int) (lo : Nat) (am av ak : Option Addr) (nm cm nv cv ns cs : Nat) (M : List EntD) (V : List (List RunD)) (S : List Int) (left : Int) (w : World) (h : TreeIn lo w am nm cm av nv cv ak ns cs M V S) (h0 : 0 ≤ left) (h1 : left ≤ 1048576) :
    Calls Tryz.prog 36 #[.agg #[.int .i64 q, .slice am nm cm, .slice av nv cv, .slice ak ns cs], .int .i64 left] w fun e w' => ∃ r : Int, e = .returned (.int .i64 r) ∧ (r = -1 ∨ (0 ≤ r ∧ r ≤ left ∧ SmallT M V S)) ∧ Below w.heap.size w w' := by
  obtain ⟨W, hW⟩ : ∃ W, W = w.alloc (.cells #[.int .i64 q, .slice am nm cm, .slice av nv cv, .slice ak ns cs] 26) := ⟨_, rfl⟩
  have hB : Below w.heap.size w W := by rw [hW]; exact (Below.refl _ _).alloc (Nat.le_refl _) _
  have x2 : W.cell? ⟨w.heap.size, 2, none⟩ = some (.slice av nv cv) := by rw [hW]; simp
  have x3 : W.cell? ⟨w.heap.size, 3, none⟩ = some (.slice ak ns cs) := by rw [hW]; simp
  have H1 : Hid (TreeIn lo W am nm cm av nv cv ak ns cs M V S) := h.keep hB
  have HB : Hid (Below w.heap.size w W) := hB
  clear h hB
  go_enter Tryz.func36, Tryz.ntmps36
  go_wp2_with fail
  rw [← hW]
  clear hW
  refine (szEntS_any _ _ _ M _ _ H1.out.mem.1 h0 h1).mono ?_
  rintro e w1 ⟨r1, rfl, hr1, hb1⟩
  have x2 := cell_later hb1 x2
  have x3 := cell_later hb1 x3
  have z1 := World.block_lt_of_cell? _ _ x2
  simp only at z1
  have K1 : Hid (Below W.heap.size W w1) := hb1
  clear hb1
  rcases hr1 with rfl | ⟨a1, b1, c1⟩
  · go_wp2
    go_ret
    exact ⟨-1, rfl, Or.inl rfl, HB.out.trans (K1.out.mono HB.out.size)⟩
  go_wp2_with fail
  refine (szRunSS_any lo _ _ _ V _ _ (H1.out.keep K1.out).levels a1 (by omega)).mono ?_
  rintro e w2 ⟨r2, rfl, hr2, hb2⟩
  have x3 := cell_later hb2 x3
  have z1 := World.block_lt_of_cell? _ _ x3
  simp only at z1
  have K2 : Hid (Below W.heap.size W w2) := K1.out.trans (hb2.mono K1.out.size)
  clear hb2 K1
  rcases hr2 with rfl | ⟨a2, b2, c2⟩
  · go_wp2
    go_ret
    exact ⟨-1, rfl, Or.inl rfl, HB.out.trans (K2.out.mono HB.out.size)⟩
  have C2 : Hid (SmallV V) := c2
  clear c2
  go_wp2_with fail
  refine (szIntS_any lo _ _ _ S _ _ (H1.out.keep K2.out).snaps a2 (by omega)).mono ?_
  rintro e w3 ⟨r3, rfl, hr3, hb3⟩
  have K3 : Hid (Below W.heap.size W w3) := K2.out.trans (hb3.mono K2.out.size)
  clear hb3 K2
  rcases hr3 with rfl | ⟨a3, b3, c3⟩
  · go_wp2
    go_ret
    exact ⟨-1, rfl, Or.inl rfl, HB.out.trans (K3.out.mono HB.out.size)⟩
  · go_wp2
    go_ret
    exact ⟨r3, rfl, Or.inr ⟨a3, by omega, ⟨by have := H1.out.mem.1.length; omega, C2.out, by have := H1.out.snaps.length; omega⟩⟩, HB.out.trans (K3.out.mono HB.out.size)⟩
end Go.Proofs.YtapjkbpfhmbfaaaGreatDoor
