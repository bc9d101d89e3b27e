/-
  The program's reader of a log: its next word and number, by walks of its Go text.
  The program's reader of a log: its next number, by a walk of its Go text.
-/
import Derived.Test.YtfblpbihpmhgjaaDoorFm15
import Derived.Lib.IndexLaws
namespace Go.Proofs.YtfblpbihpmhgjaaDoor
open Go.RowKit Go.Shelf

set_option maxHeartbeats 400000 in
theorem idx_any (s : ByteArray) (w : World) : Calls Tryd.prog 158 #[.string s, .int .u8 32] w fun e w' => e = .returned (.int .i64 (Lib.indexByte s.data.toList 32)) ∧ w = w' := by
  go_enter Tryd.func158, Tryd.ntmps158
  go_wp2_with fail
  refine (Tryd.stringslite_IndexByte s 32 _).mono ?_
  rintro e w1 ⟨rfl, rfl⟩
  go_wp2
  go_ret
  exact ⟨rfl, rfl⟩
theorem idx_cases : ∀ (l : List UInt8), (Lib.indexByte l 32 = -1 ∧ (32 : UInt8) ∉ l) ∨ ∃ u r, l = u ++ 32 :: r ∧ (32 : UInt8) ∉ u ∧ Lib.indexByte l 32 = (u.length : Int)
  | [] => Or.inl ⟨rfl, by simp⟩
  | x :: l => by
    by_cases hx : x = 32
    · subst hx
      exact Or.inr ⟨[], l, rfl, by simp, by simp [Lib.indexByte]⟩
    · have hxb : (x == 32) = false := by simpa using hx
      rcases idx_cases l with ⟨h1, h2⟩ | ⟨u, r, rfl, h2, h3⟩
      · exact Or.inl ⟨by simp [Lib.indexByte, hxb, h1], by simp [h2, Ne.symm hx]⟩
      · have hne : (Lib.indexByte (u ++ 32 :: r) 32 == -1) = false := by rw [h3]; simp
        exact Or.inr ⟨x :: u, r, rfl, by simp [h2, Ne.symm hx], by show Lib.indexByte (x :: (u ++ 32 :: r)) 32 = _; rw [Lib.indexByte, hxb, hne, h3]; simp⟩
/-- What the two pieces of a word are. -/
theorem word_pieces {l a b c d : List UInt8} (h1 : (a, b) = pieceP (Lib.indexByte l 32) l) (h2 : (c, d) = pieceP 1 b) : (a, d) = wordP l := by
  rcases idx_cases l with ⟨e1, e2⟩ | ⟨u, r, rfl, e2, e3⟩
  · rw [e1, pieceP, if_pos (Or.inl (by decide))] at h1
    cases h1
    rw [wordP, if_neg e2]
    rw [pieceP] at h2
    split at h2
    · rename_i h
      have hl : l.length = 0 := by
        rcases h with h | h
        · omega
        · omega
      rw [List.length_eq_zero_iff] at hl
      subst hl
      cases h2
      rfl
    · cases h2
      rfl
  · rw [e3, piece_hit] at h1
    cases h1
    rw [word_hit _ _ e2]
    have : pieceP 1 (32 :: r) = ([32], r) := piece_hit [32] r
    rw [this] at h2
    cases h2
    rfl

set_option maxHeartbeats 2000000 in
set_option maxRecDepth 100000 in
theorem word_any (X k : Nat) (t : ByteArray) (w : World) (h : LrAt w X t k) (ht : t.size ≤ 1048576) :
    Calls Tryd.prog 133 #[.pointer (some ⟨X, 0, none⟩)] w fun e w' => ∃ (s : ByteArray) (j : Nat), e = .returned (.string s) ∧ (s.data.toList, t.data.toList.drop j) = wordP (t.data.toList.drop k) ∧ LrAt w' X t j ∧ w.grownBy w' (some X) := by
  have HL : Hid (LrAt w.drew X t k) := h.drew
  have hle := h.le
  have c0 : w.drew.cell? ⟨X, 0, none⟩ = some (.string t) := h.c0
  have c1 : w.drew.cell? ⟨X, 1, none⟩ = some (.int .i64 (k : Int)) := h.c1
  have hX := h.lt
  clear h
  have hkI : (k : Int) ≤ (t.size : Int) := by omega
  have hk0 : 0 ≤ (k : Int) := by omega
  have CP : Hid (Calls Tryd.prog 134 #[.pointer (some ⟨X, 0, none⟩), .int .i64 (Lib.indexByte (List.take (t.size - k) (List.drop k t.data.toList)) 32)] w.drew fun e w' => ∃ (s : ByteArray) (j : Nat), e = .returned (.string s) ∧ (s.data.toList, t.data.toList.drop j) = pieceP (Lib.indexByte (t.data.toList.drop k) 32) (t.data.toList.drop k) ∧ LrAt w' X t j ∧ w.drew.grownBy w' (some X)) := by
    have e0 : List.take (t.size - k) (List.drop k t.data.toList) = t.data.toList.drop k := List.take_of_length_le (by rw [List.length_drop, bytes_len]; omega)
    have hr : -1 ≤ Lib.indexByte (t.data.toList.drop k) 32 ∧ Lib.indexByte (t.data.toList.drop k) 32 ≤ 1048576 := by
      rcases idx_cases (t.data.toList.drop k) with ⟨h1, _⟩ | ⟨u, r, h1, _, h3⟩
      · rw [h1]; omega
      · rw [h3]
        have := congrArg List.length h1
        rw [List.length_drop, bytes_len] at this
        simp at this
        omega
    rw [e0]
    exact piece_any X k t _ _ HL.out ht (by omega) (by omega)
  go_enter Tryd.func133, Tryd.ntmps133
  go_wp2_with fail
  have HS0 : Hid (w.drew.cell? ⟨X, 0, none⟩ = some (.string t) ∧ X < w.drew.heap.size) := ⟨c0, hX⟩
  refine wp_region_held_drew (S := (fun w' => w'.cell? ⟨X, 0, none⟩ = some (.string t) ∧ X < w'.heap.size)) (by kernel_rfl) HS0.out (fun hHeld => ?_)
  refine wpAnyH_takeL (i := 0) (v := ?_) rfl (by kernel_rfl) (by kernel_rfl) (by kernel_rfl) (fun _ _ _ h => h) (Or.inl ⟨by rfl, ?_⟩) hHeld ?_
  rotate_left
  · (intro w hSw; (try dsimp only at hSw); go_simp; try with_reducible rfl)
  try go_frame
  refine wpAnyH_takeL (i := 1) (v := ?_) rfl (by kernel_rfl) (by kernel_rfl) (by kernel_rfl) (fun _ _ _ h => h) (Or.inl ⟨by rfl, ?_⟩) hHeld ?_
  rotate_left
  · (intro w hSw; (try dsimp only at hSw); go_simp; try with_reducible rfl)
  try go_frame
  refine wpAnyH_takeL (i := 2) (v := ?_) rfl (by kernel_rfl) (by kernel_rfl) (by kernel_rfl) (fun _ _ _ h => h) (Or.inl ⟨by rfl, ?_⟩) hHeld ?_
  rotate_left
  · (intro w hSw; (try dsimp only at hSw); go_simp; try with_reducible rfl)
  try go_frame
  refine wpAnyH_takeL (i := 3) (v := ?_) rfl (by kernel_rfl) (by kernel_rfl) (by kernel_rfl) (fun _ _ _ h => h) (Or.inl ⟨by rfl, ?_⟩) hHeld ?_
  rotate_left
  · (intro w hSw; (try dsimp only at hSw); go_simp; try with_reducible rfl)
  try go_frame
  refine wpAnyH_takeL (i := 4) (v := ?_) rfl (by kernel_rfl) (by kernel_rfl) (by kernel_rfl) (fun _ _ _ h => h) (Or.inl ⟨by rfl, ?_⟩) hHeld ?_
  rotate_left
  · (intro w hSw; (try dsimp only at hSw); go_simp; try with_reducible rfl)
  try go_frame
  refine wpAnyH_takeL (i := 5) (v := ?_) rfl (by kernel_rfl) (by kernel_rfl) (by kernel_rfl) (fun _ _ _ h => h) (Or.inl ⟨by rfl, ?_⟩) hHeld ?_
  rotate_left
  · (intro w hSw; (try dsimp only at hSw); go_simp; try with_reducible rfl)
  try go_frame
  refine wpAnyH_takeL (i := 6) (v := ?_) rfl (by kernel_rfl) (by kernel_rfl) (by kernel_rfl) (fun _ _ _ h => h) (Or.inl ⟨by rfl, ?_⟩) hHeld ?_
  rotate_left
  · (intro w hSw; (try dsimp only at hSw); go_simp; try with_reducible rfl)
  try go_frame
  refine wpAnyH_takeL (i := 7) (v := ?_) rfl (by kernel_rfl) (by kernel_rfl) (by kernel_rfl) (fun _ _ _ h => h) (Or.inl ⟨by rfl, ?_⟩) hHeld ?_
  rotate_left
  · (intro w hSw; (try dsimp only at hSw); go_simp; try with_reducible rfl)
  try go_frame
  refine wpAnyH_ready (rs := [8]) (by kernel_rfl) (by simp) ?_
  refine consL rfl (fun K hK => ?_) AllReadyH.nil
  go_simp
  refine hK.out _ _ HS0.out (fun hHeld => ?_)
  clear hK K
  try go_frame
  refine wpAnyH_takeL (i := 9) (v := ?_) rfl (by kernel_rfl) (by kernel_rfl) (by kernel_rfl) (fun _ _ _ h => h) (Or.inl ⟨by rfl, ?_⟩) hHeld ?_
  rotate_left
  · (intro w hSw; (try dsimp only at hSw); go_simp; try with_reducible rfl)
  try go_frame
  refine wpAnyH_ready (rs := [10]) (by kernel_rfl) (by simp) ?_
  refine consL rfl (fun K hK => ?_) AllReadyH.nil
  go_simp
  refine (idx_any _ _).mono ?_
  rintro e w0 ⟨rfl, rfl⟩
  go_wp2_with fail
  refine hK.out _ _ HS0.out (fun hHeld => ?_)
  clear hK K
  try go_frame
  refine wpAnyH_ready (rs := [11]) (by kernel_rfl) (by simp) ?_
  refine consL rfl (fun K hK => ?_) AllReadyH.nil
  go_simp
  refine CP.out.mono ?_
  rintro e w1 ⟨s, j, rfl, hs, hL1, hg1⟩
  have HS : Hid ((s.data.toList, t.data.toList.drop j) = pieceP (Lib.indexByte (t.data.toList.drop k) 32) (t.data.toList.drop k)) := hs
  have HL1 : Hid (LrAt w1 X t j) := hL1
  have HG1 : Hid (w.drew.grownBy w1 (some X)) := hg1
  clear hs hL1 hg1
  go_wp2_with fail
  refine hK.out _ _ ⟨HL1.out.c0, HL1.out.lt⟩ (fun hHeld => ?_)
  clear hK K
  try go_frame
  refine wpAnyH_takeL (i := 12) (v := ?_) rfl (by kernel_rfl) (by kernel_rfl) (by kernel_rfl) (fun _ _ _ h => h) (Or.inl ⟨by rfl, ?_⟩) hHeld ?_
  rotate_left
  · (intro w hSw; (try dsimp only at hSw); go_simp; try with_reducible rfl)
  try go_frame
  refine wpAnyH_done (by kernel_rfl) ?_ _
  all_goals
    go_wp2_with fail
    refine (piece_any X j t 1 _ HL1.out ht (by omega) (by omega)).mono ?_
    rintro e w2 ⟨s2, j2, rfl, hs2, hL2, hg2⟩
    have HS2 : Hid ((s.data.toList, t.data.toList.drop j2) = wordP (t.data.toList.drop k)) := word_pieces HS.out hs2
    clear hs2
    go_wp2
    go_ret
    exact ⟨s, j2, rfl, HS2.out, hL2, gTr (gTr (gOf ((Below.refl _ _).drew) _) HG1.out) hg2⟩

end Go.Proofs.YtfblpbihpmhgjaaDoor

namespace Go.Proofs.YtfblpbihpmhgjaaDoor
open Go.RowKit Go.Shelf

theorem LrAt.below {w w' : World} {X : Nat} {t : ByteArray} {k : Nat} (h : LrAt w X t k) (hb : Below w.heap.size w w') : LrAt w' X t k := ⟨cell_later hb h.c0, cell_later hb h.c1, fun o => by rw [hb.frozen (p := ⟨X, o, none⟩) h.lt]; exact h.fz o, h.le⟩
theorem wordP_len (l : List UInt8) : (wordP l).1.length ≤ l.length := by
  rw [wordP]
  split
  · exact (List.takeWhile_prefix _).length_le
  · simp
theorem low_of_grown {B X : Nat} {w w' : World} (h : w.grownBy w' (some X)) (hB : B ≤ X) (hX : X < w.heap.size) : Below B w w' :=
  ⟨h.os, h.tape, h.output, h.size, fun i hi => h.block i (by omega) (fun e => by cases e; omega)⟩

set_option maxHeartbeats 2000000 in
set_option maxRecDepth 100000 in
theorem number_any (B X k : Nat) (t : ByteArray) (w : World) (h : LrAt w X t k) (ht : t.size ≤ 1048576) (hB : B ≤ X) (hE : ErrB B w) :
    Calls Tryd.prog 104 #[.pointer (some ⟨X, 0, none⟩)] w fun e w' => ∃ (v : Int) (j : Nat), e = .returned (.int .i64 v) ∧ (v, t.data.toList.drop j) = numP (t.data.toList.drop k) ∧ (Lit.int .i64 v).wf = true ∧ LrAt w' X t j ∧ w.grownBy w' (some X) := by
  have HL : Hid (LrAt w X t k) := h
  have HE : Hid (ErrB B w) := hE
  have hX := h.lt
  clear h hE
  go_enter Tryd.func104, Tryd.ntmps104
  go_wp2_with fail
  refine (word_any X k t _ HL.out ht).mono ?_
  rintro e w1 ⟨s, j, rfl, hs, hL1, hg1⟩
  have HS : Hid ((s.data.toList, t.data.toList.drop j) = wordP (t.data.toList.drop k)) := hs
  have HL1 : Hid (LrAt w1 X t j) := hL1
  have HG1 : Hid (w.grownBy w1 (some X)) := hg1
  have hsz : s.size ≤ 1048576 := by
    have h1 := wordP_len (t.data.toList.drop k)
    rw [← hs] at h1
    rw [List.length_drop, bytes_len, bytes_len] at h1
    omega
  have hv : ErrV w1 := HE.out w1 (low_of_grown hg1 hB hX)
  clear hs hL1 hg1
  go_wp2_with fail
  refine (Tryd.atoi_any s (by omega) _ hv).mono ?_
  rintro e w2 ⟨hr, hb2⟩
  have HL2 : Hid (LrAt w2 X t j) := HL1.out.below hb2
  have HG2 : Hid (w.grownBy w2 (some X)) := gTr HG1.out (gOf hb2 _)
  clear hb2 hv
  rcases hr with ⟨v, hv, rfl⟩ | ⟨hno, n, T, N, rfl⟩
  · have hb := Lib.atoiAll_bounds hv
    have HN : Hid ((v, t.data.toList.drop j) = numP (t.data.toList.drop k)) := by
      show _ = _
      rw [numP, ← HS.out]
      simp only [hv]
    clear hv
    go_wp2
    go_ret
    exact ⟨v, j, rfl, HN.out, WalkArith.wf_i64 (by omega), HL2.out, HG2.out⟩
  · have HN : Hid (((0 : Int), t.data.toList.drop j) = numP (t.data.toList.drop k)) := by
      show _ = _
      rw [numP, ← HS.out]
      cases hv : Lib.atoiAll s.data.toList with
      | ok v => exact absurd hv (hno v)
      | _ => rfl
    clear hno
    go_wp2
    go_ret
    exact ⟨0, j, rfl, HN.out, by decide, HL2.out, HG2.out⟩

end Go.Proofs.YtfblpbihpmhgjaaDoor
