/-
  What the document's TreeNew makes, in memory from the call's own start on; marks of a tree of nothing; by walks of their Go text.
-/
import Derived.Test.YtkeodfajgpbgaaaAsTree
namespace Go.Proofs.Ytkeodfajgpbgaaa
open Go.RowKit

theorem cell_new3 (u : World) (t : TypeId) (v0 v1 v2 : Value) (n : Nat) (h : n = u.heap.size) : (u.alloc (.cells #[v0, v1, v2] t)).cell? ⟨n, 0 + 0, none⟩ = some v0 ∧ (u.alloc (.cells #[v0, v1, v2] t)).cell? ⟨n, 0 + 1, none⟩ = some v1 ∧ (u.alloc (.cells #[v0, v1, v2] t)).cell? ⟨n, 0 + 2, none⟩ = some v2 := by
  subst h
  simp
set_option maxHeartbeats 800000 in
theorem specTreeNewX (w : World) : Calls Try.prog 79 #[] w fun e w' => ∃ vb : Nat, e = .returned (.agg #[.int .i64 0, .slice none 0 0, .slice (some ⟨vb, 0, none⟩) 3 3, .slice none 0 0]) ∧ TreeIn w.heap.size w' none 0 0 (some ⟨vb, 0, none⟩) 3 3 none 0 0 [] [[], [], []] [] ∧ Below w.heap.size w w' := by
  go_enter Try.func79, Try.ntmps79
  go_wp2
  refine bodyPost_ret (v := .agg #[.int .i64 0, .slice none 0 0, .slice (some ⟨w.heap.size + 1 + 1 + 1 + 1, 0, none⟩) 3 3, .slice none 0 0]) (by simp [results, Try.results79, go_sem]) rfl ⟨_, rfl, ⟨ents_none _ _ _, ?_, ints_none _ _ _⟩, ?_⟩
  · refine ⟨rfl, Nat.le_refl _, by unfold maxLen; omega, (fun e => by cases e), (fun x e _ => by cases e; exact ⟨by simp, rfl, by show w.heap.size ≤ w.heap.size + 1 + 1 + 1 + 1; omega⟩), ?_⟩
    rintro x e i hi
    cases e
    have hi3 : i < 3 := by simpa using hi
    have hc := cell_new3 (((((w.alloc (.cells #[.int .i64 0, .slice none 0 0, .slice (some ⟨w.heap.size + 1 + 1 + 1 + 1, 0, none⟩) 3 3, .slice none 0 0] 32)).alloc (.cells #[] 100)).alloc (.cells #[] 100)).alloc (.cells #[] 100))) 111 (.slice (some ⟨w.heap.size + 1, 0, none⟩) 0 0) (.slice (some ⟨w.heap.size + 1 + 1, 0, none⟩) 0 0) (.slice (some ⟨w.heap.size + 1 + 1 + 1, 0, none⟩) 0 0) (w.heap.size + 1 + 1 + 1 + 1) (by simp)
    match i, hi3 with
    | 0, _ => exact ⟨_, 0, 0, hc.1, runs_none _ _ _⟩
    | 1, _ => exact ⟨_, 0, 0, hc.2.1, runs_none _ _ _⟩
    | 2, _ => exact ⟨_, 0, 0, hc.2.2, runs_none _ _ _⟩
  · exact (((((Below.refl _ _).alloc (Nat.le_refl _) _).alloc (by simp) _).alloc (by simp; omega) _).alloc (by simp; omega) _).alloc (by simp; omega) _

set_option maxHeartbeats 400000 in
theorem markE_none (a : Option Addr) (c : Nat) (k : Int) (w : World) : Calls Try.prog 52 #[.slice a 0 c, .int .i64 k] w fun e w' => e = .returned (.int .i64 k) ∧ w' = w := by
  go_enter Try.func52, Try.ntmps52
  go_wp2
  go_loopw [1, 5] (fun kv i wr => kv = .int .i64 k ∧ i = .int .i64 0 ∧ wr = w) (fun _ i _ => 0)
  case atStart => exact ⟨rfl, rfl, rfl⟩
  case round =>
    obtain ⟨rfl, rfl, rfl⟩ := hrel
    go_wp2
    go_ret
    exact ⟨rfl, rfl⟩
set_option maxHeartbeats 400000 in
theorem heldE_none (a : Option Addr) (c : Nat) (k : Int) (w : World) : Calls Try.prog 54 #[.slice a 0 c, .int .i64 k] w fun e w' => e = .returned (.int .i64 k) ∧ w' = w := by
  go_enter Try.func54, Try.ntmps54
  go_wp2
  go_loopw [1, 5] (fun kv i wr => kv = .int .i64 k ∧ i = .int .i64 0 ∧ wr = w) (fun _ i _ => 0)
  case atStart => exact ⟨rfl, rfl, rfl⟩
  case round =>
    obtain ⟨rfl, rfl, rfl⟩ := hrel
    go_wp2
    go_ret
    exact ⟨rfl, rfl⟩
set_option maxHeartbeats 400000 in
theorem markI_none (a : Option Addr) (c : Nat) (k : Int) (w : World) : Calls Try.prog 53 #[.slice a 0 c, .int .i64 k] w fun e w' => e = .returned (.int .i64 k) ∧ w' = w := by
  go_enter Try.func53, Try.ntmps53
  go_wp2
  go_loopw [1, 5] (fun kv i wr => kv = .int .i64 k ∧ i = .int .i64 0 ∧ wr = w) (fun _ i _ => 0)
  case atStart => exact ⟨rfl, rfl, rfl⟩
  case round =>
    obtain ⟨rfl, rfl, rfl⟩ := hrel
    go_wp2
    go_ret
    exact ⟨rfl, rfl⟩
set_option maxHeartbeats 400000 in
theorem heldI_none (a : Option Addr) (c : Nat) (k : Int) (w : World) : Calls Try.prog 151 #[.slice a 0 c, .int .i64 k] w fun e w' => e = .returned (.int .i64 k) ∧ w' = w := by
  go_enter Try.func151, Try.ntmps151
  go_wp2
  go_loopw [1, 5] (fun kv i wr => kv = .int .i64 k ∧ i = .int .i64 0 ∧ wr = w) (fun _ i _ => 0)
  case atStart => exact ⟨rfl, rfl, rfl⟩
  case round =>
    obtain ⟨rfl, rfl, rfl⟩ := hrel
    go_wp2
    go_ret
    exact ⟨rfl, rfl⟩
set_option maxHeartbeats 400000 in
theorem markR_none (a : Option Addr) (c : Nat) (k : Int) (w : World) : Calls Try.prog 203 #[.slice a 0 c, .int .i64 k] w fun e w' => e = .returned (.int .i64 k) ∧ w' = w := by
  go_enter Try.func203, Try.ntmps203
  go_wp2
  go_loopw [1, 5] (fun kv i wr => kv = .int .i64 k ∧ i = .int .i64 0 ∧ wr = w) (fun _ i _ => 0)
  case atStart => exact ⟨rfl, rfl, rfl⟩
  case round =>
    obtain ⟨rfl, rfl, rfl⟩ := hrel
    go_wp2
    go_ret
    exact ⟨rfl, rfl⟩
set_option maxHeartbeats 400000 in
theorem heldR_none (a : Option Addr) (c : Nat) (k : Int) (w : World) : Calls Try.prog 204 #[.slice a 0 c, .int .i64 k] w fun e w' => e = .returned (.int .i64 k) ∧ w' = w := by
  go_enter Try.func204, Try.ntmps204
  go_wp2
  go_loopw [1, 5] (fun kv i wr => kv = .int .i64 k ∧ i = .int .i64 0 ∧ wr = w) (fun _ i _ => 0)
  case atStart => exact ⟨rfl, rfl, rfl⟩
  case round =>
    obtain ⟨rfl, rfl, rfl⟩ := hrel
    go_wp2
    go_ret
    exact ⟨rfl, rfl⟩
theorem level_none {lo : Nat} {w : World} {b off len cap k : Nat} {V : List (List RunD)} (h : LevelsIn lo w (some ⟨b, off, none⟩) len cap V) (hV : ∀ B ∈ V, B = []) (hk : k < len) : ∃ s c, w.cell? ⟨b, off + k, none⟩ = some (.slice s 0 c) := by
  obtain ⟨B, s, n, c, hg, c0, hR⟩ := h.level (Below.refl _ w) k hk
  have := hV B (List.mem_of_getElem? hg)
  subst this
  have hn := hR.length
  simp at hn
  subst hn
  exact ⟨s, c, c0⟩
set_option maxHeartbeats 800000 in
theorem markV_none (lo b n c : Nat) (V : List (List RunD)) (w : World) (h : LevelsIn lo w (some ⟨b, 0, none⟩) n c V) (hV : ∀ B ∈ V, B = []) (hn : 1 ≤ n) : Calls Try.prog 149 #[.slice (some ⟨b, 0, none⟩) n c, .int .i64 1] w fun e w' => e = .returned (.int .i64 1) ∧ w' = w := by
  have hr := h.room
  have hbg := h.big
  unfold maxLen at hbg
  have hb := (h.lies _ rfl (by omega)).1
  simp only at hb
  have HV : Hid (∀ k, k < n → ∃ s c', w.cell? ⟨b, 0 + k, none⟩ = some (.slice s 0 c')) := fun k hk => level_none h hV hk
  clear h hV
  go_enter Try.func149, Try.ntmps149
  go_wp2
  go_loopw [1, 5] (fun kv i wr => ∃ j : Nat, j ≤ n ∧ kv = .int .i64 1 ∧ i = .int .i64 j ∧ wr = w) (fun _ i _ => n - (intOf i).toNat)
  case atStart => exact ⟨0, Nat.zero_le _, rfl, rfl, rfl⟩
  case round =>
    obtain ⟨j, hj, rfl, rfl, rfl⟩ := hrel
    by_cases hlt : j < n
    · have hltI : (j : Int) < (n : Int) := by omega
      obtain ⟨s, c', hc⟩ := HV.out j hlt
      simp only [Nat.zero_add] at hc
      go_wp2_with fail
      refine (markR_none _ _ _ _).mono ?_
      rintro e w1 ⟨rfl, rfl⟩
      go_wp2
      go_roundw
      case rel => exact ⟨j + 1, by omega, rfl, by go_num, by first | rfl | trivial⟩
      case measure => simp [intOf]; omega
    · go_wp2
      go_ret
      exact ⟨rfl, rfl⟩
set_option maxHeartbeats 800000 in
theorem heldV_none (lo b n c : Nat) (V : List (List RunD)) (w : World) (h : LevelsIn lo w (some ⟨b, 0, none⟩) n c V) (hV : ∀ B ∈ V, B = []) (hn : 1 ≤ n) : Calls Try.prog 150 #[.slice (some ⟨b, 0, none⟩) n c, .int .i64 1] w fun e w' => e = .returned (.int .i64 1) ∧ w' = w := by
  have hr := h.room
  have hbg := h.big
  unfold maxLen at hbg
  have hb := (h.lies _ rfl (by omega)).1
  simp only at hb
  have HV : Hid (∀ k, k < n → ∃ s c', w.cell? ⟨b, 0 + k, none⟩ = some (.slice s 0 c')) := fun k hk => level_none h hV hk
  clear h hV
  go_enter Try.func150, Try.ntmps150
  go_wp2
  go_loopw [1, 5] (fun kv i wr => ∃ j : Nat, j ≤ n ∧ kv = .int .i64 1 ∧ i = .int .i64 j ∧ wr = w) (fun _ i _ => n - (intOf i).toNat)
  case atStart => exact ⟨0, Nat.zero_le _, rfl, rfl, rfl⟩
  case round =>
    obtain ⟨j, hj, rfl, rfl, rfl⟩ := hrel
    by_cases hlt : j < n
    · have hltI : (j : Int) < (n : Int) := by omega
      obtain ⟨s, c', hc⟩ := HV.out j hlt
      simp only [Nat.zero_add] at hc
      go_wp2_with fail
      refine (heldR_none _ _ _ _).mono ?_
      rintro e w1 ⟨rfl, rfl⟩
      go_wp2
      go_roundw
      case rel => exact ⟨j + 1, by omega, rfl, by go_num, by first | rfl | trivial⟩
      case measure => simp [intOf]; omega
    · go_wp2
      go_ret
      exact ⟨rfl, rfl⟩
theorem all_none : ∀ B ∈ ([[], [], []] : List (List RunD)), B = [] := by simp

set_option maxHeartbeats 800000 in
theorem markT_none (lo eb vb sb : Nat) (w : World) (h : TreeIn lo w (some ⟨eb, 0, none⟩) 0 0 (some ⟨vb, 0, none⟩) 3 3 (some ⟨sb, 0, none⟩) 0 0 [] [[], [], []] []) :
    Calls Try.prog 82 #[.agg #[.int .i64 0, .slice (some ⟨eb, 0, none⟩) 0 0, .slice (some ⟨vb, 0, none⟩) 3 3, .slice (some ⟨sb, 0, none⟩) 0 0], .int .i64 1] w fun e w' => e = .returned (.int .i64 1) ∧ Below w.heap.size w w' := by
  have kW : Below w.heap.size w (w.alloc (.cells #[.int .i64 0, .slice (some ⟨eb, 0, none⟩) 0 0, .slice (some ⟨vb, 0, none⟩) 3 3, .slice (some ⟨sb, 0, none⟩) 0 0] 32)) := (Below.refl _ _).alloc (Nat.le_refl _) _
  have C := markV_none lo vb 3 3 [[], [], []] _ (h.keep kW).levels all_none (by omega)
  have KW : Hid (Below w.heap.size w (w.alloc (.cells #[.int .i64 0, .slice (some ⟨eb, 0, none⟩) 0 0, .slice (some ⟨vb, 0, none⟩) 3 3, .slice (some ⟨sb, 0, none⟩) 0 0] 32))) := kW
  clear h kW
  go_enter Try.func82, Try.ntmps82
  go_wp2_with fail
  refine (markE_none _ _ _ _).mono ?_
  rintro e w1 ⟨rfl, rfl⟩
  go_wp2_with fail
  refine C.mono ?_
  rintro e w2 ⟨rfl, rfl⟩
  go_wp2_with fail
  refine (markI_none _ _ _ _).mono ?_
  rintro e w3 ⟨rfl, rfl⟩
  go_wp2
  go_ret
  exact ⟨rfl, KW.out⟩
set_option maxHeartbeats 800000 in
theorem heldT_none (lo eb vb sb : Nat) (w : World) (h : TreeIn lo w (some ⟨eb, 0, none⟩) 0 0 (some ⟨vb, 0, none⟩) 3 3 (some ⟨sb, 0, none⟩) 0 0 [] [[], [], []] []) :
    Calls Try.prog 84 #[.agg #[.int .i64 0, .slice (some ⟨eb, 0, none⟩) 0 0, .slice (some ⟨vb, 0, none⟩) 3 3, .slice (some ⟨sb, 0, none⟩) 0 0], .int .i64 1] w fun e w' => e = .returned (.int .i64 1) ∧ Below w.heap.size w w' := by
  have kW : Below w.heap.size w (w.alloc (.cells #[.int .i64 0, .slice (some ⟨eb, 0, none⟩) 0 0, .slice (some ⟨vb, 0, none⟩) 3 3, .slice (some ⟨sb, 0, none⟩) 0 0] 32)) := (Below.refl _ _).alloc (Nat.le_refl _) _
  have C := heldV_none lo vb 3 3 [[], [], []] _ (h.keep kW).levels all_none (by omega)
  have KW : Hid (Below w.heap.size w (w.alloc (.cells #[.int .i64 0, .slice (some ⟨eb, 0, none⟩) 0 0, .slice (some ⟨vb, 0, none⟩) 3 3, .slice (some ⟨sb, 0, none⟩) 0 0] 32))) := kW
  clear h kW
  go_enter Try.func84, Try.ntmps84
  go_wp2_with fail
  refine (heldE_none _ _ _ _).mono ?_
  rintro e w1 ⟨rfl, rfl⟩
  go_wp2_with fail
  refine C.mono ?_
  rintro e w2 ⟨rfl, rfl⟩
  go_wp2_with fail
  refine (heldI_none _ _ _ _).mono ?_
  rintro e w3 ⟨rfl, rfl⟩
  go_wp2
  go_ret
  exact ⟨rfl, KW.out⟩
theorem TreeIn.low0 {lo : Nat} {w : World} {am av ak : Option Addr} {nm cm nv cv ns cs : Nat} {M : List EntD} {V : List (List RunD)} {S : List Int} (h : TreeIn lo w am nm cm av nv cv ak ns cs M V S) : TreeIn 0 w am nm cm av nv cv ak ns cs M V S := ⟨h.mem.mono (Nat.zero_le _), h.levels.mono (Nat.zero_le _), h.snaps.lower (Nat.zero_le _)⟩

end Go.Proofs.Ytkeodfajgpbgaaa
