/-
  The walk of the law FnExactTreeNew: it answers true.
-/
import Derived.Test.YtnopbjhlnjbodaaAsTree
namespace Go.Proofs.Ytnopbjhlnjbodaa
open Go.RowKit

set_option maxHeartbeats 800000 in
theorem implTreeNew (w : World) : Calls Try.prog 20 #[] w (NewR w) := by
  obtain ⟨W, hW⟩ : ∃ W, W = w.alloc (.cells #[.int .i64 0, .slice none 0 0, .slice none 0 0, .slice none 0 0] 37) := ⟨_, rfl⟩
  have kW : Below w.heap.size w W := by rw [hW]; exact (Below.refl _ _).alloc (Nat.le_refl _) _
  have bo : Box4 W w.heap.size (.int .i64 0) (.slice none 0 0) (.slice none 0 0) (.slice none 0 0) := by rw [hW]; exact Box4.new _ _ _ _ _ _
  have BO : Hid (Box4 W w.heap.size (.int .i64 0) (.slice none 0 0) (.slice none 0 0) (.slice none 0 0)) := bo
  have KW : Hid (Below w.heap.size w W) := kW
  have HSZ : Hid (w.heap.size + 1 = W.heap.size) := by rw [hW]; simp [Hid]
  clear bo kW
  go_enter Try.func20, Try.ntmps20
  go_wp2_with fail
  rw [← hW]
  clear hW
  refine (asTree_nil W).mono ?_
  rintro e w1 ⟨eb, vb, sb, rfl, hT, hb1⟩
  have bo := BO.out.keep hb1
  have c0 := bo.c0
  have c1 := bo.c1
  have c2 := bo.c2
  have c3 := bo.c3
  have fz := bo.fz
  have zb := bo.lt
  have HBO : Hid (Box4 w1 w.heap.size (.int .i64 0) (.slice none 0 0) (.slice none 0 0) (.slice none 0 0)) := bo
  have HT : Hid (TreeIn W.heap.size w1 (some ⟨eb, 0, none⟩) 0 0 (some ⟨vb, 0, none⟩) 3 3 (some ⟨sb, 0, none⟩) 0 0 [] [[], [], []] []) := hT
  have K1 : Hid (Below w.heap.size w w1) := KW.out.trans (hb1.mono KW.out.size)
  clear bo hT hb1
  go_wp2
  refine bodyPost_ret (v := .agg #[.int .i64 0, .slice (some ⟨eb, 0, none⟩) 0 0, .slice (some ⟨vb, 0, none⟩) 3 3, .slice (some ⟨sb, 0, none⟩) 0 0]) ?_ rfl ⟨eb, vb, sb, rfl, ?_, ?_⟩
  · have e := (((HBO.out.set0 (.int .i64 0)).set1 (.slice (some ⟨eb, 0, none⟩) 0 0)).set2 (.slice (some ⟨vb, 0, none⟩) 3 3)).set3 (.slice (some ⟨sb, 0, none⟩) 0 0)
    simp [results, Try.results20, go_sem, e.c0, e.c1, e.c2, e.c3]
  · have hsz := HSZ.out
    have hm : Same W.heap.size w1 ((((w1.setCell ⟨w.heap.size, 0, none⟩ (.int .i64 0)).setCell ⟨w.heap.size, 1, none⟩ (.slice (some ⟨eb, 0, none⟩) 0 0)).setCell ⟨w.heap.size, 2, none⟩ (.slice (some ⟨vb, 0, none⟩) 3 3)).setCell ⟨w.heap.size, 3, none⟩ (.slice (some ⟨sb, 0, none⟩) 0 0)) := (((Same.of_set _ _ (by show w.heap.size < W.heap.size; omega)).trans (Same.of_set _ _ (by show w.heap.size < W.heap.size; omega))).trans (Same.of_set _ _ (by show w.heap.size < W.heap.size; omega))).trans (Same.of_set _ _ (by show w.heap.size < W.heap.size; omega))
    have ht := HT.out.same hm
    exact ⟨ht.mem.mono (by omega), ht.levels.mono (by omega), ht.snaps.lower (by omega)⟩
  · exact (((K1.out.setCell (p := ⟨w.heap.size, 0, none⟩) (Nat.le_refl _) _).setCell (p := ⟨w.heap.size, 1, none⟩) (Nat.le_refl _) _).setCell (p := ⟨w.heap.size, 2, none⟩) (Nat.le_refl _) _).setCell (p := ⟨w.heap.size, 3, none⟩) (Nat.le_refl _) _

theorem cell_new3 (u : World) (t : TypeId) (v0 v1 v2 : Value) (n : Nat) (h : n = u.heap.size) : (u.alloc (.cells #[v0, v1, v2] t)).cell? ⟨n, 0 + 0, none⟩ = some v0 ∧ (u.alloc (.cells #[v0, v1, v2] t)).cell? ⟨n, 0 + 1, none⟩ = some v1 ∧ (u.alloc (.cells #[v0, v1, v2] t)).cell? ⟨n, 0 + 2, none⟩ = some v2 := by
  subst h
  simp
set_option maxHeartbeats 800000 in
theorem specTreeNew (w : World) : Calls Try.prog 19 #[] w fun e w' => ∃ vb : Nat, e = .returned (.agg #[.int .i64 0, .slice none 0 0, .slice (some ⟨vb, 0, none⟩) 3 3, .slice none 0 0]) ∧ TreeIn 0 w' none 0 0 (some ⟨vb, 0, none⟩) 3 3 none 0 0 [] [[], [], []] [] ∧ Below w.heap.size w w' := by
  go_enter Try.func19, Try.ntmps19
  go_wp2
  refine bodyPost_ret (v := .agg #[.int .i64 0, .slice none 0 0, .slice (some ⟨w.heap.size + 1 + 1 + 1 + 1, 0, none⟩) 3 3, .slice none 0 0]) (by simp [results, Try.results19, go_sem]) rfl ⟨_, rfl, ⟨ents_none _ _ _, ?_, ints_none _ _ _⟩, ?_⟩
  · refine ⟨rfl, Nat.le_refl _, by unfold maxLen; omega, (fun e => by cases e), (fun x e _ => by cases e; exact ⟨by simp, rfl, Nat.zero_le _⟩), ?_⟩
    rintro x e i hi
    cases e
    have hi3 : i < 3 := by simpa using hi
    have hc := cell_new3 (((((w.alloc (.cells #[.int .i64 0, .slice none 0 0, .slice (some ⟨w.heap.size + 1 + 1 + 1 + 1, 0, none⟩) 3 3, .slice none 0 0] 37)).alloc (.cells #[] 25)).alloc (.cells #[] 25)).alloc (.cells #[] 25))) 94 (.slice (some ⟨w.heap.size + 1, 0, none⟩) 0 0) (.slice (some ⟨w.heap.size + 1 + 1, 0, none⟩) 0 0) (.slice (some ⟨w.heap.size + 1 + 1 + 1, 0, none⟩) 0 0) (w.heap.size + 1 + 1 + 1 + 1) (by simp)
    match i, hi3 with
    | 0, _ => exact ⟨_, 0, 0, hc.1, runs_none _ _ _⟩
    | 1, _ => exact ⟨_, 0, 0, hc.2.1, runs_none _ _ _⟩
    | 2, _ => exact ⟨_, 0, 0, hc.2.2, runs_none _ _ _⟩
  · exact (((((Below.refl _ _).alloc (Nat.le_refl _) _).alloc (by simp) _).alloc (by simp; omega) _).alloc (by simp; omega) _).alloc (by simp; omega) _

set_option maxHeartbeats 400000 in
theorem markE_none (a : Option Addr) (c : Nat) (k : Int) (w : World) : Calls Try.prog 48 #[.slice a 0 c, .int .i64 k] w fun e w' => e = .returned (.int .i64 k) ∧ w' = w := by
  go_enter Try.func48, Try.ntmps48
  go_wp2
  go_loopw [1, 5] (fun kv i wr => kv = .int .i64 k ∧ i = .int .i64 0 ∧ wr = w) (fun _ i _ => 0)
  case atStart => exact ⟨rfl, rfl, rfl⟩
  case round =>
    obtain ⟨rfl, rfl, rfl⟩ := hrel
    go_wp2
    go_ret
    exact ⟨rfl, rfl⟩
set_option maxHeartbeats 400000 in
theorem heldE_none (a : Option Addr) (c : Nat) (k : Int) (w : World) : Calls Try.prog 50 #[.slice a 0 c, .int .i64 k] w fun e w' => e = .returned (.int .i64 k) ∧ w' = w := by
  go_enter Try.func50, Try.ntmps50
  go_wp2
  go_loopw [1, 5] (fun kv i wr => kv = .int .i64 k ∧ i = .int .i64 0 ∧ wr = w) (fun _ i _ => 0)
  case atStart => exact ⟨rfl, rfl, rfl⟩
  case round =>
    obtain ⟨rfl, rfl, rfl⟩ := hrel
    go_wp2
    go_ret
    exact ⟨rfl, rfl⟩
set_option maxHeartbeats 400000 in
theorem markI_none (a : Option Addr) (c : Nat) (k : Int) (w : World) : Calls Try.prog 49 #[.slice a 0 c, .int .i64 k] w fun e w' => e = .returned (.int .i64 k) ∧ w' = w := by
  go_enter Try.func49, Try.ntmps49
  go_wp2
  go_loopw [1, 5] (fun kv i wr => kv = .int .i64 k ∧ i = .int .i64 0 ∧ wr = w) (fun _ i _ => 0)
  case atStart => exact ⟨rfl, rfl, rfl⟩
  case round =>
    obtain ⟨rfl, rfl, rfl⟩ := hrel
    go_wp2
    go_ret
    exact ⟨rfl, rfl⟩
set_option maxHeartbeats 400000 in
theorem heldI_none (a : Option Addr) (c : Nat) (k : Int) (w : World) : Calls Try.prog 77 #[.slice a 0 c, .int .i64 k] w fun e w' => e = .returned (.int .i64 k) ∧ w' = w := by
  go_enter Try.func77, Try.ntmps77
  go_wp2
  go_loopw [1, 5] (fun kv i wr => kv = .int .i64 k ∧ i = .int .i64 0 ∧ wr = w) (fun _ i _ => 0)
  case atStart => exact ⟨rfl, rfl, rfl⟩
  case round =>
    obtain ⟨rfl, rfl, rfl⟩ := hrel
    go_wp2
    go_ret
    exact ⟨rfl, rfl⟩
set_option maxHeartbeats 400000 in
theorem markR_none (a : Option Addr) (c : Nat) (k : Int) (w : World) : Calls Try.prog 133 #[.slice a 0 c, .int .i64 k] w fun e w' => e = .returned (.int .i64 k) ∧ w' = w := by
  go_enter Try.func133, Try.ntmps133
  go_wp2
  go_loopw [1, 5] (fun kv i wr => kv = .int .i64 k ∧ i = .int .i64 0 ∧ wr = w) (fun _ i _ => 0)
  case atStart => exact ⟨rfl, rfl, rfl⟩
  case round =>
    obtain ⟨rfl, rfl, rfl⟩ := hrel
    go_wp2
    go_ret
    exact ⟨rfl, rfl⟩
set_option maxHeartbeats 400000 in
theorem heldR_none (a : Option Addr) (c : Nat) (k : Int) (w : World) : Calls Try.prog 134 #[.slice a 0 c, .int .i64 k] w fun e w' => e = .returned (.int .i64 k) ∧ w' = w := by
  go_enter Try.func134, Try.ntmps134
  go_wp2
  go_loopw [1, 5] (fun kv i wr => kv = .int .i64 k ∧ i = .int .i64 0 ∧ wr = w) (fun _ i _ => 0)
  case atStart => exact ⟨rfl, rfl, rfl⟩
  case round =>
    obtain ⟨rfl, rfl, rfl⟩ := hrel
    go_wp2
    go_ret
    exact ⟨rfl, rfl⟩
theorem level_none {lo : Nat} {w : World} {b off len cap k : Nat} {V : List (List RunD)} (h : LevelsIn lo w (some ⟨b, off, none⟩) len cap V) (hV : ∀ B ∈ V, B = []) (hk : k < len) : ∃ s c, w.cell? ⟨b, off + k, none⟩ = some (.slice s 0 c) := by
  obtain ⟨B, s, n, c, hg, c0, hR⟩ := h.level (Below.refl _ w) k hk
  have := hV B (List.mem_of_getElem? hg)
  subst this
  have hn := hR.length
  simp at hn
  subst hn
  exact ⟨s, c, c0⟩
set_option maxHeartbeats 800000 in
theorem markV_none (lo b n c : Nat) (V : List (List RunD)) (w : World) (h : LevelsIn lo w (some ⟨b, 0, none⟩) n c V) (hV : ∀ B ∈ V, B = []) (hn : 1 ≤ n) : Calls Try.prog 75 #[.slice (some ⟨b, 0, none⟩) n c, .int .i64 1] w fun e w' => e = .returned (.int .i64 1) ∧ w' = w := by
  have hr := h.room
  have hbg := h.big
  unfold maxLen at hbg
  have hb := (h.lies _ rfl (by omega)).1
  simp only at hb
  have HV : Hid (∀ k, k < n → ∃ s c', w.cell? ⟨b, 0 + k, none⟩ = some (.slice s 0 c')) := fun k hk => level_none h hV hk
  clear h hV
  go_enter Try.func75, Try.ntmps75
  go_wp2
  go_loopw [1, 5] (fun kv i wr => ∃ j : Nat, j ≤ n ∧ kv = .int .i64 1 ∧ i = .int .i64 j ∧ wr = w) (fun _ i _ => n - (intOf i).toNat)
  case atStart => exact ⟨0, Nat.zero_le _, rfl, rfl, rfl⟩
  case round =>
    obtain ⟨j, hj, rfl, rfl, rfl⟩ := hrel
    by_cases hlt : j < n
    · have hltI : (j : Int) < (n : Int) := by omega
      obtain ⟨s, c', hc⟩ := HV.out j hlt
      simp only [Nat.zero_add] at hc
      go_wp2_with fail
      refine (markR_none _ _ _ _).mono ?_
      rintro e w1 ⟨rfl, rfl⟩
      go_wp2
      go_roundw
      case rel => exact ⟨j + 1, by omega, rfl, by go_num, by first | rfl | trivial⟩
      case measure => simp [intOf]; omega
    · go_wp2
      go_ret
      exact ⟨rfl, rfl⟩
set_option maxHeartbeats 800000 in
theorem heldV_none (lo b n c : Nat) (V : List (List RunD)) (w : World) (h : LevelsIn lo w (some ⟨b, 0, none⟩) n c V) (hV : ∀ B ∈ V, B = []) (hn : 1 ≤ n) : Calls Try.prog 76 #[.slice (some ⟨b, 0, none⟩) n c, .int .i64 1] w fun e w' => e = .returned (.int .i64 1) ∧ w' = w := by
  have hr := h.room
  have hbg := h.big
  unfold maxLen at hbg
  have hb := (h.lies _ rfl (by omega)).1
  simp only at hb
  have HV : Hid (∀ k, k < n → ∃ s c', w.cell? ⟨b, 0 + k, none⟩ = some (.slice s 0 c')) := fun k hk => level_none h hV hk
  clear h hV
  go_enter Try.func76, Try.ntmps76
  go_wp2
  go_loopw [1, 5] (fun kv i wr => ∃ j : Nat, j ≤ n ∧ kv = .int .i64 1 ∧ i = .int .i64 j ∧ wr = w) (fun _ i _ => n - (intOf i).toNat)
  case atStart => exact ⟨0, Nat.zero_le _, rfl, rfl, rfl⟩
  case round =>
    obtain ⟨j, hj, rfl, rfl, rfl⟩ := hrel
    by_cases hlt : j < n
    · have hltI : (j : Int) < (n : Int) := by omega
      obtain ⟨s, c', hc⟩ := HV.out j hlt
      simp only [Nat.zero_add] at hc
      go_wp2_with fail
      refine (heldR_none _ _ _ _).mono ?_
      rintro e w1 ⟨rfl, rfl⟩
      go_wp2
      go_roundw
      case rel => exact ⟨j + 1, by omega, rfl, by go_num, by first | rfl | trivial⟩
      case measure => simp [intOf]; omega
    · go_wp2
      go_ret
      exact ⟨rfl, rfl⟩
theorem all_none : ∀ B ∈ ([[], [], []] : List (List RunD)), B = [] := by simp

set_option maxHeartbeats 800000 in
theorem markT_none (lo eb vb sb : Nat) (w : World) (h : TreeIn lo w (some ⟨eb, 0, none⟩) 0 0 (some ⟨vb, 0, none⟩) 3 3 (some ⟨sb, 0, none⟩) 0 0 [] [[], [], []] []) :
    Calls Try.prog 22 #[.agg #[.int .i64 0, .slice (some ⟨eb, 0, none⟩) 0 0, .slice (some ⟨vb, 0, none⟩) 3 3, .slice (some ⟨sb, 0, none⟩) 0 0], .int .i64 1] w fun e w' => e = .returned (.int .i64 1) ∧ Below w.heap.size w w' := by
  have kW : Below w.heap.size w (w.alloc (.cells #[.int .i64 0, .slice (some ⟨eb, 0, none⟩) 0 0, .slice (some ⟨vb, 0, none⟩) 3 3, .slice (some ⟨sb, 0, none⟩) 0 0] 37)) := (Below.refl _ _).alloc (Nat.le_refl _) _
  have C := markV_none lo vb 3 3 [[], [], []] _ (h.keep kW).levels all_none (by omega)
  have KW : Hid (Below w.heap.size w (w.alloc (.cells #[.int .i64 0, .slice (some ⟨eb, 0, none⟩) 0 0, .slice (some ⟨vb, 0, none⟩) 3 3, .slice (some ⟨sb, 0, none⟩) 0 0] 37))) := kW
  clear h kW
  go_enter Try.func22, Try.ntmps22
  go_wp2_with fail
  refine (markE_none _ _ _ _).mono ?_
  rintro e w1 ⟨rfl, rfl⟩
  go_wp2_with fail
  refine C.mono ?_
  rintro e w2 ⟨rfl, rfl⟩
  go_wp2_with fail
  refine (markI_none _ _ _ _).mono ?_
  rintro e w3 ⟨rfl, rfl⟩
  go_wp2
  go_ret
  exact ⟨rfl, KW.out⟩
set_option maxHeartbeats 800000 in
theorem heldT_none (lo eb vb sb : Nat) (w : World) (h : TreeIn lo w (some ⟨eb, 0, none⟩) 0 0 (some ⟨vb, 0, none⟩) 3 3 (some ⟨sb, 0, none⟩) 0 0 [] [[], [], []] []) :
    Calls Try.prog 23 #[.agg #[.int .i64 0, .slice (some ⟨eb, 0, none⟩) 0 0, .slice (some ⟨vb, 0, none⟩) 3 3, .slice (some ⟨sb, 0, none⟩) 0 0], .int .i64 1] w fun e w' => e = .returned (.int .i64 1) ∧ Below w.heap.size w w' := by
  have kW : Below w.heap.size w (w.alloc (.cells #[.int .i64 0, .slice (some ⟨eb, 0, none⟩) 0 0, .slice (some ⟨vb, 0, none⟩) 3 3, .slice (some ⟨sb, 0, none⟩) 0 0] 37)) := (Below.refl _ _).alloc (Nat.le_refl _) _
  have C := heldV_none lo vb 3 3 [[], [], []] _ (h.keep kW).levels all_none (by omega)
  have KW : Hid (Below w.heap.size w (w.alloc (.cells #[.int .i64 0, .slice (some ⟨eb, 0, none⟩) 0 0, .slice (some ⟨vb, 0, none⟩) 3 3, .slice (some ⟨sb, 0, none⟩) 0 0] 37))) := kW
  clear h kW
  go_enter Try.func23, Try.ntmps23
  go_wp2_with fail
  refine (heldE_none _ _ _ _).mono ?_
  rintro e w1 ⟨rfl, rfl⟩
  go_wp2_with fail
  refine C.mono ?_
  rintro e w2 ⟨rfl, rfl⟩
  go_wp2_with fail
  refine (heldI_none _ _ _ _).mono ?_
  rintro e w3 ⟨rfl, rfl⟩
  go_wp2
  go_ret
  exact ⟨rfl, KW.out⟩
theorem TreeIn.low0 {lo : Nat} {w : World} {am av ak : Option Addr} {nm cm nv cv ns cs : Nat} {M : List EntD} {V : List (List RunD)} {S : List Int} (h : TreeIn lo w am nm cm av nv cv ak ns cs M V S) : TreeIn 0 w am nm cm av nv cv ak ns cs M V S := ⟨h.mem.mono (Nat.zero_le _), h.levels.mono (Nat.zero_le _), h.snaps.lower (Nat.zero_le _)⟩

/-- The law answers true. -/
def ExR0 (w : World) (e : Ending) (w' : World) : Prop := e = .returned (.bool true) ∧ Below w.heap.size w w'

set_option maxRecDepth 100000 in
set_option maxHeartbeats 4000000 in
theorem walkFnExactTreeNew (w : World) : Calls Try.prog 4 #[] w fun e w' => e = .returned (.bool true) ∧ Below w.heap.size w w' := by
  show Calls _ _ _ w (ExR0 w)
  go_enter Try.func4, Try.ntmps4
  go_wp2_with fail
  refine (specTreeNew w).mono ?_
  rintro e w1 ⟨v0, rfl, hT1, hb1⟩
  obtain ⟨A, hA⟩ : ∃ A, A = w1.heap.size := ⟨_, rfl⟩
  obtain ⟨W1, hW1⟩ : ∃ W1, W1 = w1.alloc (.cells #[.int .i64 0, .slice none 0 0, .slice (some ⟨v0, 0, none⟩) 3 3, .slice none 0 0] 37) := ⟨_, rfl⟩
  have k1 : Below w1.heap.size w1 W1 := by rw [hW1]; exact (Below.refl _ _).alloc (Nat.le_refl _) _
  have BA : Hid (Box4 W1 A (.int .i64 0) (.slice none 0 0) (.slice (some ⟨v0, 0, none⟩) 3 3) (.slice none 0 0)) := by rw [hW1, hA]; exact Box4.new _ _ _ _ _ _
  have T1 : Hid (TreeIn 0 W1 none 0 0 (some ⟨v0, 0, none⟩) 3 3 none 0 0 [] [[], [], []] []) := hT1.keep k1
  have K1 : Hid (Below w.heap.size w W1) := hb1.trans (k1.mono hb1.size)
  clear hT1 hb1 k1
  go_wp2_with fail
  rw [← hW1, ← hA]
  clear hW1 hA
  refine (implTreeNew W1).mono ?_
  rintro e w2 ⟨eb, vb, sb, rfl, hT2, hb2⟩
  obtain ⟨B, hB⟩ : ∃ B, B = w2.heap.size := ⟨_, rfl⟩
  obtain ⟨W2, hW2⟩ : ∃ W2, W2 = w2.alloc (.cells #[.int .i64 0, .slice (some ⟨eb, 0, none⟩) 0 0, .slice (some ⟨vb, 0, none⟩) 3 3, .slice (some ⟨sb, 0, none⟩) 0 0] 37) := ⟨_, rfl⟩
  have k2 : Below w2.heap.size w2 W2 := by rw [hW2]; exact (Below.refl _ _).alloc (Nat.le_refl _) _
  have k12 : Below W1.heap.size W1 W2 := hb2.trans (k2.mono hb2.size)
  have BB : Hid (Box4 W2 B (.int .i64 0) (.slice (some ⟨eb, 0, none⟩) 0 0) (.slice (some ⟨vb, 0, none⟩) 3 3) (.slice (some ⟨sb, 0, none⟩) 0 0)) := by rw [hW2, hB]; exact Box4.new _ _ _ _ _ _
  have BA2 : Hid (Box4 W2 A (.int .i64 0) (.slice none 0 0) (.slice (some ⟨v0, 0, none⟩) 3 3) (.slice none 0 0)) := BA.out.keep k12
  have G2 : Hid (TreeIn 0 W2 (some ⟨eb, 0, none⟩) 0 0 (some ⟨vb, 0, none⟩) 3 3 (some ⟨sb, 0, none⟩) 0 0 [] [[], [], []] []) := (hT2.keep k2).low0
  have T2 : Hid (TreeIn 0 W2 none 0 0 (some ⟨v0, 0, none⟩) 3 3 none 0 0 [] [[], [], []] []) := T1.out.keep k12
  have K2 : Hid (Below w.heap.size w W2) := K1.out.trans (k12.mono K1.out.size)
  have a0 := (BA.out.keep hb2).c0
  have a1 := (BA.out.keep hb2).c1
  have a2 := (BA.out.keep hb2).c2
  have a3 := (BA.out.keep hb2).c3
  have az := (BA.out.keep hb2).lt
  clear hT2 hb2 k2 k12 BA T1 K1
  go_wp2_with fail
  rw [← hW2, ← hB]
  clear hW2 hB a0 a1 a2 a3 az
  refine (eqTree_opt 0 0 0 _ _ _ _ _ _ _ _ _ _ _ _ _ _ _ [] [[], [], []] [] W2 G2.out T2.out).mono ?_
  rintro e w3 ⟨rfl, hb3⟩
  have b0 := (BB.out.keep hb3).c0
  have b1 := (BB.out.keep hb3).c1
  have b2 := (BB.out.keep hb3).c2
  have b3 := (BB.out.keep hb3).c3
  have bz := (BB.out.keep hb3).lt
  have K3 : Hid (Below W2.heap.size W2 w3) := hb3
  clear hb3
  go_wp2_with fail
  clear b0 b1 b2 b3 bz
  refine (markT_none 0 eb vb sb w3 (G2.out.keep K3.out)).mono ?_
  rintro e w4 ⟨rfl, hb4⟩
  have K4 : Hid (Below W2.heap.size W2 w4) := K3.out.trans (hb4.mono K3.out.size)
  clear hb4 K3
  have b0 := (BB.out.keep K4.out).c0
  have b1 := (BB.out.keep K4.out).c1
  have b2 := (BB.out.keep K4.out).c2
  have b3 := (BB.out.keep K4.out).c3
  have bz := (BB.out.keep K4.out).lt
  go_wp2_with fail
  clear b0 b1 b2 b3 bz
  refine (heldT_none 0 eb vb sb w4 (G2.out.keep K4.out)).mono ?_
  rintro e w5 ⟨rfl, hb5⟩
  have K5 : Hid (Below W2.heap.size W2 w5) := K4.out.trans (hb5.mono K4.out.size)
  clear hb5 K4
  go_wp2_with fail
  refine (implTreeNew w5).mono ?_
  rintro e w6 ⟨eh, vh, sh, rfl, hT6, hb6⟩
  obtain ⟨C, hC⟩ : ∃ C, C = w6.heap.size := ⟨_, rfl⟩
  obtain ⟨W6, hW6⟩ : ∃ W6, W6 = w6.alloc (.cells #[.int .i64 0, .slice (some ⟨eh, 0, none⟩) 0 0, .slice (some ⟨vh, 0, none⟩) 3 3, .slice (some ⟨sh, 0, none⟩) 0 0] 37) := ⟨_, rfl⟩
  have k6 : Below w6.heap.size w6 W6 := by rw [hW6]; exact (Below.refl _ _).alloc (Nat.le_refl _) _
  have K6 : Hid (Below W2.heap.size W2 w6) := K5.out.trans (hb6.mono K5.out.size)
  have KQ : Hid (Below W2.heap.size W2 W6) := K6.out.trans (k6.mono K6.out.size)
  have H6 : Hid (TreeIn 0 W6 (some ⟨eh, 0, none⟩) 0 0 (some ⟨vh, 0, none⟩) 3 3 (some ⟨sh, 0, none⟩) 0 0 [] [[], [], []] []) := (hT6.keep k6).low0
  have a0 := (BA2.out.keep K6.out).c0
  have a1 := (BA2.out.keep K6.out).c1
  have a2 := (BA2.out.keep K6.out).c2
  have a3 := (BA2.out.keep K6.out).c3
  have az := (BA2.out.keep K6.out).lt
  clear hT6 hb6 k6 K5
  go_wp2_with fail
  rw [← hW6]
  try rw [← hC]
  clear hW6 hC a0 a1 a2 a3 az
  refine (eqTree_opt 0 0 0 _ _ _ _ _ _ _ _ _ _ _ _ _ _ _ [] [[], [], []] [] W6 H6.out (T2.out.keep KQ.out)).mono ?_
  rintro e w7 ⟨rfl, hb7⟩
  have K7 : Hid (Below W2.heap.size W2 w7) := KQ.out.trans (hb7.mono KQ.out.size)
  clear hb7
  have b0 := (BB.out.keep K7.out).c0
  have b1 := (BB.out.keep K7.out).c1
  have b2 := (BB.out.keep K7.out).c2
  have b3 := (BB.out.keep K7.out).c3
  have bz := (BB.out.keep K7.out).lt
  go_wp2_with fail
  clear b0 b1 b2 b3 bz
  refine (heldT_none 0 eb vb sb w7 (G2.out.keep K7.out)).mono ?_
  rintro e w8 ⟨rfl, hb8⟩
  have K8 : Hid (Below W2.heap.size W2 w8) := K7.out.trans (hb8.mono K7.out.size)
  clear hb8
  go_wp2
  go_ret
  exact ⟨rfl, K2.out.trans (K8.out.mono K2.out.size)⟩
end Go.Proofs.Ytnopbjhlnjbodaa
