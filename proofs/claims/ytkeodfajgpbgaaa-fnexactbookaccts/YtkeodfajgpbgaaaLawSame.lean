/-
  The laws' own copy of a posting, and that two postings are the same, by walks of their Go text.
-/
import Derived.Test.YtkeodfajgpbgaaaLawCopy
namespace Go.Proofs.Ytkeodfajgpbgaaa
open Go.RowKit

set_option maxHeartbeats 400000 in
theorem toPost_any (id : Int) (a : Option Addr) (len cap : Nat) (L : List LegD) (w : World) (hL : LegsAt w a len cap L) (hbig : len ≤ 1048576) :
    Calls Try.prog 96 #[.agg #[.int .i64 id, .slice a len cap]] w fun e w' => ∃ b, e = .returned (.agg #[.int .i64 id, .slice (some ⟨b, 0, none⟩) len len]) ∧ w.heap.size ≤ b ∧ b < w'.heap.size ∧ LegsAt w' (some ⟨b, 0, none⟩) len len L ∧ Below w.heap.size w w' := by
  go_enter Try.func96, Try.ntmps96
  go_wp2_with fail
  refine (toLegS_any _ _ _ L _ (hL.keep ?_) hbig).mono ?_
  · exact (((Below.refl _ _).alloc (Nat.le_refl _) _).alloc (by simp) _).alloc (by simp; omega) _
  rintro e w1 ⟨rfl, hL1, hlt1, hb1⟩
  simp only [World.size_alloc] at hlt1
  obtain ⟨hc1, hf1⟩ := bcell hb1
  have hz := hb1.size
  simp at hz
  have HL1 : Hid (LegsAt w1 (some ⟨w.heap.size + 1 + 1 + 1, 0, none⟩) len len L) := by simpa [Hid] using hL1
  have HZ : Hid (w.heap.size + 1 + 1 + 1 < w1.heap.size) := hlt1
  clear hL1 hlt1
  go_wp2
  refine bodyPost_ret (v := .agg #[.int .i64 id, .slice (some ⟨w.heap.size + 1 + 1 + 1, 0, none⟩) len len]) (by simp [results, Try.results96, go_sem, hc1]) rfl ⟨w.heap.size + 1 + 1 + 1, rfl, by omega, by simpa [World.setCell] using HZ.out, ?_, ?_⟩
  · refine ((HL1.out.setCell _ _ ?_).setCell _ _ ?_).setCell _ _ ?_ <;> (rintro x e _; cases e; simp; try omega)
  · have hB : Below w.heap.size w w1 := ((((Below.refl _ _).alloc (Nat.le_refl _) _).alloc (by simp) _).alloc (by simp; omega) _).trans (hb1.mono (by simp; omega))
    exact ((hB.setCell (p := ⟨w.heap.size + 1 + 1, 1, none⟩) (by simp; omega) _).setCell (p := ⟨w.heap.size + 1, 0, none⟩) (by simp) _).setCell (p := ⟨w.heap.size + 1, 1, none⟩) (by simp) _

set_option maxHeartbeats 800000 in
theorem eqLegS_same (b1 o1 b2 o2 len cap1 cap2 : Nat) (L : List LegD) (w : World) (h1 : LegsAt w (some ⟨b1, o1, none⟩) len cap1 L) (h2 : LegsAt w (some ⟨b2, o2, none⟩) len cap2 L) :
    Calls Try.prog 166 #[.slice (some ⟨b1, o1, none⟩) len cap1, .slice (some ⟨b2, o2, none⟩) len cap2] w fun e w' => e = .returned (.bool true) ∧ Below w.heap.size w w' := by
  have hbl := h1.room
  have hbc := h1.big
  unfold maxLen at hbc
  have H1 : Hid (LegsAt w (some ⟨b1, o1, none⟩) len cap1 L) := h1
  have H2 : Hid (LegsAt w (some ⟨b2, o2, none⟩) len cap2 L) := h2
  clear h1 h2
  go_enter Try.func166, Try.ntmps166
  go_wp2
  go_loopw [5] (fun i wr => ∃ k : Nat, k ≤ len ∧ i = .int .i64 k ∧ Below w.heap.size w wr) (fun i _ => len - (intOf i).toNat)
  case atStart => exact ⟨0, Nat.zero_le _, rfl, Below.refl _ _⟩
  case round =>
    obtain ⟨k, hk, rfl, hb⟩ := hrel
    by_cases hlt : k < len
    · obtain ⟨s, c, n, hg, _, g0, g1, g2⟩ := H1.out.leg hb (H1.out.lies _ rfl (by omega)).1 k hlt
      obtain ⟨s', c', n', hg', _, q0, q1, q2⟩ := H2.out.leg hb (H2.out.lies _ rfl (by omega)).1 k hlt
      rw [hg] at hg'
      cases hg'
      clear hg
      have hltI : (k : Int) < (len : Int) := by omega
      go_wp2_with fail
      go_region_with (go_at_call 214; refine (eqLeg_same _ _ _ _).mono ?_; rintro e w1 ⟨rfl, hb1⟩)
      all_goals
        go_wp2
        go_roundw
        case rel => exact ⟨k + 1, by omega, by go_num, hb.drew.trans (hb1.mono hb.size)⟩
        case measure => simp [intOf]; omega
    · go_wp2
      go_ret
      exact ⟨rfl, hb⟩

set_option maxHeartbeats 800000 in
theorem eqPost_same (id : Int) (b1 o1 b2 o2 len cap1 cap2 : Nat) (L : List LegD) (w : World) (h1 : LegsAt w (some ⟨b1, o1, none⟩) len cap1 L) (h2 : LegsAt w (some ⟨b2, o2, none⟩) len cap2 L) :
    Calls Try.prog 99 #[.agg #[.int .i64 id, .slice (some ⟨b1, o1, none⟩) len cap1], .agg #[.int .i64 id, .slice (some ⟨b2, o2, none⟩) len cap2]] w fun e w' => e = .returned (.bool true) ∧ Below w.heap.size w w' := by
  have hB : Below w.heap.size w ((w.alloc (.cells #[.int .i64 id, .slice (some ⟨b1, o1, none⟩) len cap1] 65)).alloc (.cells #[.int .i64 id, .slice (some ⟨b2, o2, none⟩) len cap2] 65)) := ((Below.refl _ _).alloc (Nat.le_refl _) _).alloc (by simp) _
  go_enter Try.func99, Try.ntmps99
  go_wp2_with (go_at_call 166; refine (eqLegS_same _ _ _ _ _ _ _ L _ (h1.keep hB) (h2.keep hB)).mono ?_; rintro e w1 ⟨rfl, hb1⟩)
  go_ret
  exact ⟨rfl, hB.trans (hb1.mono (by simp; omega))⟩

end Go.Proofs.Ytkeodfajgpbgaaa
