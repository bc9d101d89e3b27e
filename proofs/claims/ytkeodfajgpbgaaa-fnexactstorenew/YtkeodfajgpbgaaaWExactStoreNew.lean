/-
  The walk of the law FnExactStoreNew: it answers true.
-/
import Derived.Test.YtkeodfajgpbgaaaAsS
import Derived.Test.YtkeodfajgpbgaaaStore1
import Derived.Test.YtkeodfajgpbgaaaNewT
namespace Go.Proofs.Ytkeodfajgpbgaaa
open Go.RowKit

/-- A store of nothing, in new memory. -/
def NewSR (w : World) (e : Ending) (w' : World) : Prop := ∃ eb vb sb ub : Nat, e = .returned (.agg #[.bool true, .int .i64 0, .slice (some ⟨eb, 0, none⟩) 0 0, .slice (some ⟨vb, 0, none⟩) 3 3, .slice (some ⟨sb, 0, none⟩) 0 0, .string ⟨#[]⟩, .int .i64 0, .slice (some ⟨ub, 0, none⟩) 3 3, .int .i64 0]) ∧ StoreIn w.heap.size w' (some ⟨eb, 0, none⟩) 0 0 (some ⟨vb, 0, none⟩) 3 3 (some ⟨sb, 0, none⟩) 0 0 (some ⟨ub, 0, none⟩) 3 3 [] [[], [], []] [] [[], [], []] ∧ Below w.heap.size w w'

theorem small_nil : SmallR [] ∧ SmallRE [] ∧ SmallE [] := ⟨⟨by simp, (fun p hp => by cases hp)⟩, (fun p hp => by cases hp), (fun p hp => by cases hp)⟩
theorem asStore_nil (w : World) : Calls Try.prog 80 #[.agg #[.bool true, .int .i64 0, .slice none 0 0, .slice none 0 0, .slice none 0 0, .slice none 0 0, .slice none 0 0, .string ⟨#[]⟩, .int .i64 0, .slice none 0 0, .slice none 0 0, .slice none 0 0, .int .i64 0]] w (NewSR w) := by
  refine (asStore_any true 0 none none 0 0 0 0 none none none 0 0 0 0 0 0 [] [] [] [] [] ⟨#[]⟩ 0 0 none none none 0 0 0 0 0 0 [[], [], []] w ?_ ?_).mono ?_
  · intro w' _
    exact asTree_any 0 0 none none 0 0 0 0 none none none 0 0 0 0 0 0 [] [] [] [] [] w' (ents_none 0 w' none).1 (ints_none 0 w' none) (runsIn_nil 0 w') (runsIn_nil 0 w') (runsIn_nil 0 w') (by omega) (by omega) small_nil.2.2 small_nil.1 small_nil.1 small_nil.1 small_nil.2.1 small_nil.2.1 small_nil.2.1
  · intro w' _
    exact asDisk_any 0 ⟨#[]⟩ 0 0 none none none 0 0 0 0 0 0 [] [] [] w' (runsIn_nil 0 w') (runsIn_nil 0 w') (runsIn_nil 0 w') (by show 0 ≤ 281474976710656; omega) small_nil.1 small_nil.1 small_nil.1 small_nil.2.1 small_nil.2.1 small_nil.2.1
  · rintro e w' ⟨h, _⟩
    exact h rfl

set_option maxRecDepth 100000 in
set_option maxHeartbeats 1600000 in
theorem implStoreNew (w : World) : Calls Try.prog 18 #[] w (NewSR w) := by
  obtain ⟨W, hW⟩ : ∃ W, W = w.alloc (.cells #[.bool false, .int .i64 0, .slice none 0 0, .slice none 0 0, .slice none 0 0, .string ⟨#[]⟩, .int .i64 0, .slice none 0 0, .int .i64 0] 39) := ⟨_, rfl⟩
  have kW : Below w.heap.size w W := by rw [hW]; exact (Below.refl _ _).alloc (Nat.le_refl _) _
  have BO : Hid (Box9 W w.heap.size (.bool false) (.int .i64 0) (.slice none 0 0) (.slice none 0 0) (.slice none 0 0) (.string ⟨#[]⟩) (.int .i64 0) (.slice none 0 0) (.int .i64 0)) := by rw [hW]; exact Box9.new _ _ _ _ _ _ _ _ _ _ _
  have KW : Hid (Below w.heap.size w W) := kW
  have HSZ : Hid (w.heap.size + 1 = W.heap.size) := by rw [hW]; simp [Hid]
  clear kW
  go_enter Try.func18, Try.ntmps18
  go_wp2_with fail
  rw [← hW]
  clear hW
  refine (asStore_nil W).mono ?_
  rintro e w1 ⟨eb, vb, sb, ub, rfl, hT, hb1⟩
  have bo := BO.out.keep hb1
  have c0 := bo.c0
  have c1 := bo.c1
  have c2 := bo.c2
  have c3 := bo.c3
  have c4 := bo.c4
  have c5 := bo.c5
  have c6 := bo.c6
  have c7 := bo.c7
  have c8 := bo.c8
  have cz := bo.lt
  have fz := bo.fz
  have HBO : Hid (Box9 w1 w.heap.size (.bool false) (.int .i64 0) (.slice none 0 0) (.slice none 0 0) (.slice none 0 0) (.string ⟨#[]⟩) (.int .i64 0) (.slice none 0 0) (.int .i64 0)) := bo
  have HT : Hid (StoreIn W.heap.size w1 (some ⟨eb, 0, none⟩) 0 0 (some ⟨vb, 0, none⟩) 3 3 (some ⟨sb, 0, none⟩) 0 0 (some ⟨ub, 0, none⟩) 3 3 [] [[], [], []] [] [[], [], []]) := hT
  have K1 : Hid (Below w.heap.size w w1) := KW.out.trans (hb1.mono KW.out.size)
  clear bo hT hb1
  go_wp2
  refine bodyPost_ret (v := .agg #[.bool true, .int .i64 0, .slice (some ⟨eb, 0, none⟩) 0 0, .slice (some ⟨vb, 0, none⟩) 3 3, .slice (some ⟨sb, 0, none⟩) 0 0, .string ⟨#[]⟩, .int .i64 0, .slice (some ⟨ub, 0, none⟩) 3 3, .int .i64 0]) ?_ rfl ⟨eb, vb, sb, ub, rfl, ?_, ?_⟩
  · have e := (((((((((HBO.out.set0 (.bool true)).set1 (.int .i64 0)).set2 (.slice (some ⟨eb, 0, none⟩) 0 0)).set3 (.slice (some ⟨vb, 0, none⟩) 3 3)).set4 (.slice (some ⟨sb, 0, none⟩) 0 0)).set5 (.string ⟨#[]⟩)).set6 (.int .i64 0)).set7 (.slice (some ⟨ub, 0, none⟩) 3 3)).set8 (.int .i64 0))
    simp [results, Try.results18, go_sem, e.c0, e.c1, e.c2, e.c3, e.c4, e.c5, e.c6, e.c7, e.c8]
  · have hsz := HSZ.out
    have hm : Same W.heap.size w1 (((((((((w1.setCell ⟨w.heap.size, 0, none⟩ (.bool true)).setCell ⟨w.heap.size, 1, none⟩ (.int .i64 0)).setCell ⟨w.heap.size, 2, none⟩ (.slice (some ⟨eb, 0, none⟩) 0 0)).setCell ⟨w.heap.size, 3, none⟩ (.slice (some ⟨vb, 0, none⟩) 3 3)).setCell ⟨w.heap.size, 4, none⟩ (.slice (some ⟨sb, 0, none⟩) 0 0)).setCell ⟨w.heap.size, 5, none⟩ (.string ⟨#[]⟩)).setCell ⟨w.heap.size, 6, none⟩ (.int .i64 0)).setCell ⟨w.heap.size, 7, none⟩ (.slice (some ⟨ub, 0, none⟩) 3 3)).setCell ⟨w.heap.size, 8, none⟩ (.int .i64 0)) := (((((((((Same.of_set _ _ (by show w.heap.size < W.heap.size; omega)).trans (Same.of_set _ _ (by show w.heap.size < W.heap.size; omega))).trans (Same.of_set _ _ (by show w.heap.size < W.heap.size; omega))).trans (Same.of_set _ _ (by show w.heap.size < W.heap.size; omega))).trans (Same.of_set _ _ (by show w.heap.size < W.heap.size; omega))).trans (Same.of_set _ _ (by show w.heap.size < W.heap.size; omega))).trans (Same.of_set _ _ (by show w.heap.size < W.heap.size; omega))).trans (Same.of_set _ _ (by show w.heap.size < W.heap.size; omega))).trans (Same.of_set _ _ (by show w.heap.size < W.heap.size; omega)))
    have ht := HT.out.same hm
    exact ⟨⟨ht.tree.mem.mono (by omega), ht.tree.levels.mono (by omega), ht.tree.snaps.lower (by omega)⟩, ht.disk.mono (by omega)⟩
  · exact (((((((((K1.out.setCell (p := ⟨w.heap.size, 0, none⟩) (Nat.le_refl _) _).setCell (p := ⟨w.heap.size, 1, none⟩) (Nat.le_refl _) _).setCell (p := ⟨w.heap.size, 2, none⟩) (Nat.le_refl _) _).setCell (p := ⟨w.heap.size, 3, none⟩) (Nat.le_refl _) _).setCell (p := ⟨w.heap.size, 4, none⟩) (Nat.le_refl _) _).setCell (p := ⟨w.heap.size, 5, none⟩) (Nat.le_refl _) _).setCell (p := ⟨w.heap.size, 6, none⟩) (Nat.le_refl _) _).setCell (p := ⟨w.heap.size, 7, none⟩) (Nat.le_refl _) _).setCell (p := ⟨w.heap.size, 8, none⟩) (Nat.le_refl _) _)

set_option maxRecDepth 100000 in
theorem field_levels (v1 : Nat) (w : World) : (Instr.field 32 (.agg #[.int .i64 0, .slice none 0 0, .slice (some ⟨v1, 0, none⟩) 3 3, .slice none 0 0]) 2).run Try.prog w = .ok (.slice (some ⟨v1, 0, none⟩) 3 3) w := by
  simp [Instr.field, run_underlying Try.underlying32, go_sem, Try.isAgg30, Try.sizeOf30, part, asAgg]

set_option maxRecDepth 100000 in
set_option maxHeartbeats 1600000 in
theorem specStoreNew (w : World) : Calls Try.prog 17 #[] w fun e w' => ∃ v0 v1 : Nat, e = .returned (.agg #[.bool true, .int .i64 0, .slice none 0 0, .slice (some ⟨v0, 0, none⟩) 3 3, .slice none 0 0, .string ⟨#[]⟩, .int .i64 0, .slice (some ⟨v1, 0, none⟩) 3 3, .int .i64 0]) ∧ StoreIn 0 w' none 0 0 (some ⟨v0, 0, none⟩) 3 3 none 0 0 (some ⟨v1, 0, none⟩) 3 3 [] [[], [], []] [] [[], [], []] ∧ Below w.heap.size w w' := by
  obtain ⟨W, hW⟩ : ∃ W, W = w.alloc (.cells #[.bool false, .int .i64 0, .slice none 0 0, .slice none 0 0, .slice none 0 0, .string ⟨#[]⟩, .int .i64 0, .slice none 0 0, .int .i64 0] 39) := ⟨_, rfl⟩
  have kW : Below w.heap.size w W := by rw [hW]; exact (Below.refl _ _).alloc (Nat.le_refl _) _
  have BO : Hid (Box9 W w.heap.size (.bool false) (.int .i64 0) (.slice none 0 0) (.slice none 0 0) (.slice none 0 0) (.string ⟨#[]⟩) (.int .i64 0) (.slice none 0 0) (.int .i64 0)) := by rw [hW]; exact Box9.new _ _ _ _ _ _ _ _ _ _ _
  have KW : Hid (Below w.heap.size w W) := kW
  have HSZ : Hid (w.heap.size + 1 = W.heap.size) := by rw [hW]; simp [Hid]
  clear kW
  have hfd : ∀ (v1 : Nat) w', (Instr.field 32 (.agg #[.int .i64 0, .slice none 0 0, .slice (some ⟨v1, 0, none⟩) 3 3, .slice none 0 0]) 2).run Try.prog w' = .ok (.slice (some ⟨v1, 0, none⟩) 3 3) w' := field_levels
  go_enter Try.func17, Try.ntmps17
  go_wp2_with fail
  rw [← hW]
  clear hW
  refine (specTreeNewX W).mono ?_
  rintro e w1 ⟨v0, rfl, hT0, hb1⟩
  go_wp2_with fail
  refine (specTreeNewX w1).mono ?_
  rintro e w2 ⟨v1, rfl, hT1, hb2⟩
  have k12 : Below W.heap.size W w2 := hb1.trans (hb2.mono hb1.size)
  have bo := BO.out.keep k12
  have c0 := bo.c0
  have c1 := bo.c1
  have c2 := bo.c2
  have c3 := bo.c3
  have c4 := bo.c4
  have c5 := bo.c5
  have c6 := bo.c6
  have c7 := bo.c7
  have c8 := bo.c8
  have cz := bo.lt
  have fz := bo.fz
  have HBO : Hid (Box9 w2 w.heap.size (.bool false) (.int .i64 0) (.slice none 0 0) (.slice none 0 0) (.slice none 0 0) (.string ⟨#[]⟩) (.int .i64 0) (.slice none 0 0) (.int .i64 0)) := bo
  have HT0 : Hid (TreeIn W.heap.size w2 none 0 0 (some ⟨v0, 0, none⟩) 3 3 none 0 0 [] [[], [], []] []) := hT0.keep hb2
  have HT1 : Hid (LevelsIn W.heap.size w2 (some ⟨v1, 0, none⟩) 3 3 [[], [], []]) := hT1.levels.mono hb1.size
  have K1 : Hid (Below w.heap.size w w2) := KW.out.trans (k12.mono KW.out.size)
  clear bo hT0 hT1 hb1 hb2 k12
  go_wp2
  refine bodyPost_ret (v := .agg #[.bool true, .int .i64 0, .slice none 0 0, .slice (some ⟨v0, 0, none⟩) 3 3, .slice none 0 0, .string ⟨#[]⟩, .int .i64 0, .slice (some ⟨v1, 0, none⟩) 3 3, .int .i64 0]) ?_ rfl ⟨v0, v1, rfl, ?_, ?_⟩
  · have e := (((((((((HBO.out.set0 (.bool true)).set1 (.int .i64 0)).set2 (.slice none 0 0)).set3 (.slice (some ⟨v0, 0, none⟩) 3 3)).set4 (.slice none 0 0)).set5 (.string ⟨#[]⟩)).set6 (.int .i64 0)).set7 (.slice (some ⟨v1, 0, none⟩) 3 3)).set8 (.int .i64 0))
    simp [results, Try.results17, go_sem, e.c0, e.c1, e.c2, e.c3, e.c4, e.c5, e.c6, e.c7, e.c8]
  · have hsz := HSZ.out
    have hm : Same W.heap.size w2 (((((((((w2.setCell ⟨w.heap.size, 0, none⟩ (.bool true)).setCell ⟨w.heap.size, 1, none⟩ (.int .i64 0)).setCell ⟨w.heap.size, 2, none⟩ (.slice none 0 0)).setCell ⟨w.heap.size, 3, none⟩ (.slice (some ⟨v0, 0, none⟩) 3 3)).setCell ⟨w.heap.size, 4, none⟩ (.slice none 0 0)).setCell ⟨w.heap.size, 5, none⟩ (.string ⟨#[]⟩)).setCell ⟨w.heap.size, 6, none⟩ (.int .i64 0)).setCell ⟨w.heap.size, 7, none⟩ (.slice (some ⟨v1, 0, none⟩) 3 3)).setCell ⟨w.heap.size, 8, none⟩ (.int .i64 0)) := (((((((((Same.of_set _ _ (by show w.heap.size < W.heap.size; omega)).trans (Same.of_set _ _ (by show w.heap.size < W.heap.size; omega))).trans (Same.of_set _ _ (by show w.heap.size < W.heap.size; omega))).trans (Same.of_set _ _ (by show w.heap.size < W.heap.size; omega))).trans (Same.of_set _ _ (by show w.heap.size < W.heap.size; omega))).trans (Same.of_set _ _ (by show w.heap.size < W.heap.size; omega))).trans (Same.of_set _ _ (by show w.heap.size < W.heap.size; omega))).trans (Same.of_set _ _ (by show w.heap.size < W.heap.size; omega))).trans (Same.of_set _ _ (by show w.heap.size < W.heap.size; omega)))
    have ht := HT0.out.same hm
    exact ⟨⟨ht.mem.mono (by omega), ht.levels.mono (by omega), ht.snaps.lower (by omega)⟩, (HT1.out.same hm).mono (by omega)⟩
  · exact (((((((((K1.out.setCell (p := ⟨w.heap.size, 0, none⟩) (Nat.le_refl _) _).setCell (p := ⟨w.heap.size, 1, none⟩) (Nat.le_refl _) _).setCell (p := ⟨w.heap.size, 2, none⟩) (Nat.le_refl _) _).setCell (p := ⟨w.heap.size, 3, none⟩) (Nat.le_refl _) _).setCell (p := ⟨w.heap.size, 4, none⟩) (Nat.le_refl _) _).setCell (p := ⟨w.heap.size, 5, none⟩) (Nat.le_refl _) _).setCell (p := ⟨w.heap.size, 6, none⟩) (Nat.le_refl _) _).setCell (p := ⟨w.heap.size, 7, none⟩) (Nat.le_refl _) _).setCell (p := ⟨w.heap.size, 8, none⟩) (Nat.le_refl _) _)

set_option maxRecDepth 100000 in
set_option maxHeartbeats 800000 in
theorem markD_none (lo ub : Nat) (w : World) (h : LevelsIn lo w (some ⟨ub, 0, none⟩) 3 3 [[], [], []]) :
    Calls Try.prog 83 #[.agg #[.string ⟨#[]⟩, .int .i64 0, .slice (some ⟨ub, 0, none⟩) 3 3, .int .i64 0], .int .i64 1] w fun e w' => e = .returned (.int .i64 1) ∧ Below w.heap.size w w' := by
  have kW : Below w.heap.size w (w.alloc (.cells #[.string ⟨#[]⟩, .int .i64 0, .slice (some ⟨ub, 0, none⟩) 3 3, .int .i64 0] 37)) := (Below.refl _ _).alloc (Nat.le_refl _) _
  have C := markV_none lo ub 3 3 [[], [], []] _ (h.keep kW) all_none (by omega)
  have KW : Hid (Below w.heap.size w (w.alloc (.cells #[.string ⟨#[]⟩, .int .i64 0, .slice (some ⟨ub, 0, none⟩) 3 3, .int .i64 0] 37))) := kW
  clear h kW
  go_enter Try.func83, Try.ntmps83
  go_wp2_with fail
  refine C.mono ?_
  rintro e w2 ⟨rfl, rfl⟩
  go_wp2
  go_ret
  exact ⟨rfl, KW.out⟩
set_option maxRecDepth 100000 in
set_option maxHeartbeats 800000 in
theorem markS_none (lo eb vb sb ub : Nat) (w : World) (h : StoreIn lo w (some ⟨eb, 0, none⟩) 0 0 (some ⟨vb, 0, none⟩) 3 3 (some ⟨sb, 0, none⟩) 0 0 (some ⟨ub, 0, none⟩) 3 3 [] [[], [], []] [] [[], [], []]) :
    Calls Try.prog 20 #[.agg #[.bool true, .int .i64 0, .slice (some ⟨eb, 0, none⟩) 0 0, .slice (some ⟨vb, 0, none⟩) 3 3, .slice (some ⟨sb, 0, none⟩) 0 0, .string ⟨#[]⟩, .int .i64 0, .slice (some ⟨ub, 0, none⟩) 3 3, .int .i64 0], .int .i64 1] w fun e w' => e = .returned (.int .i64 1) ∧ Below w.heap.size w w' := by
  obtain ⟨W, hW⟩ : ∃ W, W = w.alloc (.cells #[.bool true, .int .i64 0, .slice (some ⟨eb, 0, none⟩) 0 0, .slice (some ⟨vb, 0, none⟩) 3 3, .slice (some ⟨sb, 0, none⟩) 0 0, .string ⟨#[]⟩, .int .i64 0, .slice (some ⟨ub, 0, none⟩) 3 3, .int .i64 0] 39) := ⟨_, rfl⟩
  have kW : Below w.heap.size w W := by rw [hW]; exact (Below.refl _ _).alloc (Nat.le_refl _) _
  have BX : Hid (Box9 W w.heap.size (.bool true) (.int .i64 0) (.slice (some ⟨eb, 0, none⟩) 0 0) (.slice (some ⟨vb, 0, none⟩) 3 3) (.slice (some ⟨sb, 0, none⟩) 0 0) (.string ⟨#[]⟩) (.int .i64 0) (.slice (some ⟨ub, 0, none⟩) 3 3) (.int .i64 0)) := by rw [hW]; exact Box9.new _ _ _ _ _ _ _ _ _ _ _
  have H : Hid (StoreIn lo W (some ⟨eb, 0, none⟩) 0 0 (some ⟨vb, 0, none⟩) 3 3 (some ⟨sb, 0, none⟩) 0 0 (some ⟨ub, 0, none⟩) 3 3 [] [[], [], []] [] [[], [], []]) := h.keep kW
  have KW : Hid (Below w.heap.size w W) := kW
  clear h kW
  go_enter Try.func20, Try.ntmps20
  go_wp2_with fail
  rw [← hW]
  clear hW
  refine (markT_none lo eb vb sb W H.out.tree).mono ?_
  rintro e w1 ⟨rfl, hb1⟩
  have b5 := (BX.out.keep hb1).c5
  have b6 := (BX.out.keep hb1).c6
  have b7 := (BX.out.keep hb1).c7
  have b8 := (BX.out.keep hb1).c8
  have bz := (BX.out.keep hb1).lt
  have K1 : Hid (Below W.heap.size W w1) := hb1
  clear hb1
  go_wp2_with fail
  refine (markD_none lo ub w1 (H.out.keep K1.out).disk).mono ?_
  rintro e w2 ⟨rfl, hb2⟩
  have K2 : Hid (Below W.heap.size W w2) := K1.out.trans (hb2.mono K1.out.size)
  clear hb2 K1
  go_wp2
  go_ret
  exact ⟨rfl, KW.out.trans (K2.out.mono KW.out.size)⟩
set_option maxRecDepth 100000 in
set_option maxHeartbeats 800000 in
theorem heldD_none (lo ub : Nat) (w : World) (h : LevelsIn lo w (some ⟨ub, 0, none⟩) 3 3 [[], [], []]) :
    Calls Try.prog 85 #[.agg #[.string ⟨#[]⟩, .int .i64 0, .slice (some ⟨ub, 0, none⟩) 3 3, .int .i64 0], .int .i64 1] w fun e w' => e = .returned (.int .i64 1) ∧ Below w.heap.size w w' := by
  have kW : Below w.heap.size w (w.alloc (.cells #[.string ⟨#[]⟩, .int .i64 0, .slice (some ⟨ub, 0, none⟩) 3 3, .int .i64 0] 37)) := (Below.refl _ _).alloc (Nat.le_refl _) _
  have C := heldV_none lo ub 3 3 [[], [], []] _ (h.keep kW) all_none (by omega)
  have KW : Hid (Below w.heap.size w (w.alloc (.cells #[.string ⟨#[]⟩, .int .i64 0, .slice (some ⟨ub, 0, none⟩) 3 3, .int .i64 0] 37))) := kW
  clear h kW
  go_enter Try.func85, Try.ntmps85
  go_wp2_with fail
  refine C.mono ?_
  rintro e w2 ⟨rfl, rfl⟩
  go_wp2
  go_ret
  exact ⟨rfl, KW.out⟩
set_option maxRecDepth 100000 in
set_option maxHeartbeats 800000 in
theorem heldS_none (lo eb vb sb ub : Nat) (w : World) (h : StoreIn lo w (some ⟨eb, 0, none⟩) 0 0 (some ⟨vb, 0, none⟩) 3 3 (some ⟨sb, 0, none⟩) 0 0 (some ⟨ub, 0, none⟩) 3 3 [] [[], [], []] [] [[], [], []]) :
    Calls Try.prog 21 #[.agg #[.bool true, .int .i64 0, .slice (some ⟨eb, 0, none⟩) 0 0, .slice (some ⟨vb, 0, none⟩) 3 3, .slice (some ⟨sb, 0, none⟩) 0 0, .string ⟨#[]⟩, .int .i64 0, .slice (some ⟨ub, 0, none⟩) 3 3, .int .i64 0], .int .i64 1] w fun e w' => e = .returned (.int .i64 1) ∧ Below w.heap.size w w' := by
  obtain ⟨W, hW⟩ : ∃ W, W = w.alloc (.cells #[.bool true, .int .i64 0, .slice (some ⟨eb, 0, none⟩) 0 0, .slice (some ⟨vb, 0, none⟩) 3 3, .slice (some ⟨sb, 0, none⟩) 0 0, .string ⟨#[]⟩, .int .i64 0, .slice (some ⟨ub, 0, none⟩) 3 3, .int .i64 0] 39) := ⟨_, rfl⟩
  have kW : Below w.heap.size w W := by rw [hW]; exact (Below.refl _ _).alloc (Nat.le_refl _) _
  have BX : Hid (Box9 W w.heap.size (.bool true) (.int .i64 0) (.slice (some ⟨eb, 0, none⟩) 0 0) (.slice (some ⟨vb, 0, none⟩) 3 3) (.slice (some ⟨sb, 0, none⟩) 0 0) (.string ⟨#[]⟩) (.int .i64 0) (.slice (some ⟨ub, 0, none⟩) 3 3) (.int .i64 0)) := by rw [hW]; exact Box9.new _ _ _ _ _ _ _ _ _ _ _
  have H : Hid (StoreIn lo W (some ⟨eb, 0, none⟩) 0 0 (some ⟨vb, 0, none⟩) 3 3 (some ⟨sb, 0, none⟩) 0 0 (some ⟨ub, 0, none⟩) 3 3 [] [[], [], []] [] [[], [], []]) := h.keep kW
  have KW : Hid (Below w.heap.size w W) := kW
  clear h kW
  go_enter Try.func21, Try.ntmps21
  go_wp2_with fail
  rw [← hW]
  clear hW
  refine (heldT_none lo eb vb sb W H.out.tree).mono ?_
  rintro e w1 ⟨rfl, hb1⟩
  have b5 := (BX.out.keep hb1).c5
  have b6 := (BX.out.keep hb1).c6
  have b7 := (BX.out.keep hb1).c7
  have b8 := (BX.out.keep hb1).c8
  have bz := (BX.out.keep hb1).lt
  have K1 : Hid (Below W.heap.size W w1) := hb1
  clear hb1
  go_wp2_with fail
  refine (heldD_none lo ub w1 (H.out.keep K1.out).disk).mono ?_
  rintro e w2 ⟨rfl, hb2⟩
  have K2 : Hid (Below W.heap.size W w2) := K1.out.trans (hb2.mono K1.out.size)
  clear hb2 K1
  go_wp2
  go_ret
  exact ⟨rfl, KW.out.trans (K2.out.mono KW.out.size)⟩
/-- The law answers true. -/
def ExRN (w : World) (e : Ending) (w' : World) : Prop := e = .returned (.bool true) ∧ Below w.heap.size w w'

set_option maxRecDepth 100000 in
set_option maxHeartbeats 4000000 in
theorem walkFnExactStoreNew (w : World) : Calls Try.prog 4 #[] w fun e w' => e = .returned (.bool true) ∧ Below w.heap.size w w' := by
  show Calls _ _ _ w (ExRN w)
  go_enter Try.func4, Try.ntmps4
  go_wp2_with fail
  refine (specStoreNew w).mono ?_
  rintro e w1 ⟨v0, v1, rfl, hT1, hb1⟩
  obtain ⟨A, hA⟩ : ∃ A, A = w1.heap.size := ⟨_, rfl⟩
  obtain ⟨W1, hW1⟩ : ∃ W1, W1 = w1.alloc (.cells #[.bool true, .int .i64 0, .slice none 0 0, .slice (some ⟨v0, 0, none⟩) 3 3, .slice none 0 0, .string ⟨#[]⟩, .int .i64 0, .slice (some ⟨v1, 0, none⟩) 3 3, .int .i64 0] 39) := ⟨_, rfl⟩
  have k1 : Below w1.heap.size w1 W1 := by rw [hW1]; exact (Below.refl _ _).alloc (Nat.le_refl _) _
  have BA : Hid (Box9 W1 A (.bool true) (.int .i64 0) (.slice none 0 0) (.slice (some ⟨v0, 0, none⟩) 3 3) (.slice none 0 0) (.string ⟨#[]⟩) (.int .i64 0) (.slice (some ⟨v1, 0, none⟩) 3 3) (.int .i64 0)) := by rw [hW1, hA]; exact Box9.new _ _ _ _ _ _ _ _ _ _ _
  have T1 : Hid (StoreIn 0 W1 none 0 0 (some ⟨v0, 0, none⟩) 3 3 none 0 0 (some ⟨v1, 0, none⟩) 3 3 [] [[], [], []] [] [[], [], []]) := hT1.keep k1
  have K1 : Hid (Below w.heap.size w W1) := hb1.trans (k1.mono hb1.size)
  clear hT1 hb1 k1
  go_wp2_with fail
  rw [← hW1, ← hA]
  clear hW1 hA
  refine (implStoreNew W1).mono ?_
  rintro e w2 ⟨eb, vb, sb, ub, rfl, hT2, hb2⟩
  obtain ⟨B, hB⟩ : ∃ B, B = w2.heap.size := ⟨_, rfl⟩
  obtain ⟨W2, hW2⟩ : ∃ W2, W2 = w2.alloc (.cells #[.bool true, .int .i64 0, .slice (some ⟨eb, 0, none⟩) 0 0, .slice (some ⟨vb, 0, none⟩) 3 3, .slice (some ⟨sb, 0, none⟩) 0 0, .string ⟨#[]⟩, .int .i64 0, .slice (some ⟨ub, 0, none⟩) 3 3, .int .i64 0] 39) := ⟨_, rfl⟩
  have k2 : Below w2.heap.size w2 W2 := by rw [hW2]; exact (Below.refl _ _).alloc (Nat.le_refl _) _
  have k12 : Below W1.heap.size W1 W2 := hb2.trans (k2.mono hb2.size)
  have BB : Hid (Box9 W2 B (.bool true) (.int .i64 0) (.slice (some ⟨eb, 0, none⟩) 0 0) (.slice (some ⟨vb, 0, none⟩) 3 3) (.slice (some ⟨sb, 0, none⟩) 0 0) (.string ⟨#[]⟩) (.int .i64 0) (.slice (some ⟨ub, 0, none⟩) 3 3) (.int .i64 0)) := by rw [hW2, hB]; exact Box9.new _ _ _ _ _ _ _ _ _ _ _
  have BA2 : Hid (Box9 W2 A (.bool true) (.int .i64 0) (.slice none 0 0) (.slice (some ⟨v0, 0, none⟩) 3 3) (.slice none 0 0) (.string ⟨#[]⟩) (.int .i64 0) (.slice (some ⟨v1, 0, none⟩) 3 3) (.int .i64 0)) := BA.out.keep k12
  have G2 : Hid (StoreIn 0 W2 (some ⟨eb, 0, none⟩) 0 0 (some ⟨vb, 0, none⟩) 3 3 (some ⟨sb, 0, none⟩) 0 0 (some ⟨ub, 0, none⟩) 3 3 [] [[], [], []] [] [[], [], []]) := (hT2.keep k2).low
  have T2 : Hid (StoreIn 0 W2 none 0 0 (some ⟨v0, 0, none⟩) 3 3 none 0 0 (some ⟨v1, 0, none⟩) 3 3 [] [[], [], []] [] [[], [], []]) := T1.out.keep k12
  have K2 : Hid (Below w.heap.size w W2) := K1.out.trans (k12.mono K1.out.size)
  have a0 := (BA.out.keep hb2).c0
  have a1 := (BA.out.keep hb2).c1
  have a2 := (BA.out.keep hb2).c2
  have a3 := (BA.out.keep hb2).c3
  have a4 := (BA.out.keep hb2).c4
  have a5 := (BA.out.keep hb2).c5
  have a6 := (BA.out.keep hb2).c6
  have a7 := (BA.out.keep hb2).c7
  have a8 := (BA.out.keep hb2).c8
  have az := (BA.out.keep hb2).lt
  clear hT2 hb2 k2 k12 BA T1 K1
  go_wp2_with fail
  rw [← hW2, ← hB]
  clear hW2 hB
  clear a0 a1 a2 a3 a4 a5 a6 a7 a8 az
  refine (eqStore_opt 0 0 true 0 _ _ _ _ _ _ _ _ _ ⟨#[]⟩ 0 _ _ _ 0 [] [[], [], []] [] [[], [], []] _ _ _ _ _ _ _ _ W2 G2.out T2.out).mono ?_
  rintro e w3 ⟨rfl, hb3⟩
  have b0 := (BB.out.keep hb3).c0
  have b1 := (BB.out.keep hb3).c1
  have b2 := (BB.out.keep hb3).c2
  have b3 := (BB.out.keep hb3).c3
  have b4 := (BB.out.keep hb3).c4
  have b5 := (BB.out.keep hb3).c5
  have b6 := (BB.out.keep hb3).c6
  have b7 := (BB.out.keep hb3).c7
  have b8 := (BB.out.keep hb3).c8
  have bz := (BB.out.keep hb3).lt
  have K3 : Hid (Below W2.heap.size W2 w3) := hb3
  clear hb3
  go_wp2_with fail
  clear b0 b1 b2 b3 b4 b5 b6 b7 b8 bz
  refine (markS_none 0 eb vb sb ub w3 (G2.out.keep K3.out)).mono ?_
  rintro e w4 ⟨rfl, hb4⟩
  have K4 : Hid (Below W2.heap.size W2 w4) := K3.out.trans (hb4.mono K3.out.size)
  clear hb4 K3
  have b0 := (BB.out.keep K4.out).c0
  have b1 := (BB.out.keep K4.out).c1
  have b2 := (BB.out.keep K4.out).c2
  have b3 := (BB.out.keep K4.out).c3
  have b4 := (BB.out.keep K4.out).c4
  have b5 := (BB.out.keep K4.out).c5
  have b6 := (BB.out.keep K4.out).c6
  have b7 := (BB.out.keep K4.out).c7
  have b8 := (BB.out.keep K4.out).c8
  have bz := (BB.out.keep K4.out).lt
  go_wp2_with fail
  clear b0 b1 b2 b3 b4 b5 b6 b7 b8 bz
  refine (heldS_none 0 eb vb sb ub w4 (G2.out.keep K4.out)).mono ?_
  rintro e w5 ⟨rfl, hb5⟩
  have K5 : Hid (Below W2.heap.size W2 w5) := K4.out.trans (hb5.mono K4.out.size)
  clear hb5 K4
  go_wp2_with fail
  refine (implStoreNew w5).mono ?_
  rintro e w6 ⟨eh, vh, sh, uh, rfl, hT6, hb6⟩
  obtain ⟨C, hC⟩ : ∃ C, C = w6.heap.size := ⟨_, rfl⟩
  obtain ⟨W6, hW6⟩ : ∃ W6, W6 = w6.alloc (.cells #[.bool true, .int .i64 0, .slice (some ⟨eh, 0, none⟩) 0 0, .slice (some ⟨vh, 0, none⟩) 3 3, .slice (some ⟨sh, 0, none⟩) 0 0, .string ⟨#[]⟩, .int .i64 0, .slice (some ⟨uh, 0, none⟩) 3 3, .int .i64 0] 39) := ⟨_, rfl⟩
  have k6 : Below w6.heap.size w6 W6 := by rw [hW6]; exact (Below.refl _ _).alloc (Nat.le_refl _) _
  have K6 : Hid (Below W2.heap.size W2 w6) := K5.out.trans (hb6.mono K5.out.size)
  have KQ : Hid (Below W2.heap.size W2 W6) := K6.out.trans (k6.mono K6.out.size)
  have H6 : Hid (StoreIn 0 W6 (some ⟨eh, 0, none⟩) 0 0 (some ⟨vh, 0, none⟩) 3 3 (some ⟨sh, 0, none⟩) 0 0 (some ⟨uh, 0, none⟩) 3 3 [] [[], [], []] [] [[], [], []]) := (hT6.keep k6).low
  have a0 := (BA2.out.keep K6.out).c0
  have a1 := (BA2.out.keep K6.out).c1
  have a2 := (BA2.out.keep K6.out).c2
  have a3 := (BA2.out.keep K6.out).c3
  have a4 := (BA2.out.keep K6.out).c4
  have a5 := (BA2.out.keep K6.out).c5
  have a6 := (BA2.out.keep K6.out).c6
  have a7 := (BA2.out.keep K6.out).c7
  have a8 := (BA2.out.keep K6.out).c8
  have az := (BA2.out.keep K6.out).lt
  clear hT6 hb6 k6 K5
  go_wp2_with fail
  rw [← hW6]
  try rw [← hC]
  clear hW6 hC
  clear a0 a1 a2 a3 a4 a5 a6 a7 a8 az
  refine (eqStore_opt 0 0 true 0 _ _ _ _ _ _ _ _ _ ⟨#[]⟩ 0 _ _ _ 0 [] [[], [], []] [] [[], [], []] _ _ _ _ _ _ _ _ W6 H6.out (T2.out.keep KQ.out)).mono ?_
  rintro e w7 ⟨rfl, hb7⟩
  have K7 : Hid (Below W2.heap.size W2 w7) := KQ.out.trans (hb7.mono KQ.out.size)
  clear hb7
  have b0 := (BB.out.keep K7.out).c0
  have b1 := (BB.out.keep K7.out).c1
  have b2 := (BB.out.keep K7.out).c2
  have b3 := (BB.out.keep K7.out).c3
  have b4 := (BB.out.keep K7.out).c4
  have b5 := (BB.out.keep K7.out).c5
  have b6 := (BB.out.keep K7.out).c6
  have b7 := (BB.out.keep K7.out).c7
  have b8 := (BB.out.keep K7.out).c8
  have bz := (BB.out.keep K7.out).lt
  go_wp2_with fail
  clear b0 b1 b2 b3 b4 b5 b6 b7 b8 bz
  refine (heldS_none 0 eb vb sb ub w7 (G2.out.keep K7.out)).mono ?_
  rintro e w8 ⟨rfl, hb8⟩
  have K8 : Hid (Below W2.heap.size W2 w8) := K7.out.trans (hb8.mono K7.out.size)
  clear hb8
  go_wp2
  go_ret
  exact ⟨rfl, K2.out.trans (K8.out.mono K2.out.size)⟩
end Go.Proofs.Ytkeodfajgpbgaaa
