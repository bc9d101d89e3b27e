/-
  What the program's PostOk answers at every posting, by a walk of its Go text.
-/
import Derived.Test.YtfblpbihpmhgjaaDoorBp03
namespace Go.Proofs.YtfblpbihpmhgjaaDoor
open Go.RowKit

set_option maxHeartbeats 800000 in
theorem implPostOk_in (id : Int) (b off len cap : Nat) (L : List LegD) (w : World) (hL : LegsAt w (some ⟨b, off, none⟩) len cap L) (hid : 0 ≤ id) (hid2 : id ≤ 99) (hl : 1 ≤ len) (hl2 : len ≤ 4) :
    Calls Tryd.prog 31 #[.agg #[.int .i64 id, .slice (some ⟨b, off, none⟩) len cap]] w fun e w' => e = .returned (.bool (postB id L)) ∧ Below w.heap.size w w' := by
  have hlen := hL.length
  have hbw := (hL.lies _ rfl (by omega)).1
  simp only at hbw
  have HL : Hid (LegsAt w (some ⟨b, off, none⟩) len cap L) := hL
  have HLEN : Hid (L.length = len) := hlen
  clear hL hlen
  go_enter Tryd.func31, Tryd.ntmps31
  go_wp2
  go_loopw [28] (fun i wr => ∃ k : Nat, k ≤ len ∧ i = .int .i64 k ∧ Below (w.heap.size + 1) (w.alloc (.cells #[.int .i64 id, .slice (some ⟨b, off, none⟩) len cap] 29)) wr ∧ (L.take k).all legB = true) (fun i _ => len - (intOf i).toNat)
  case atStart => exact ⟨0, Nat.zero_le _, rfl, Below.refl _ _, rfl⟩
  case round =>
    obtain ⟨k, hk, rfl, hb, hall⟩ := hrel
    have hb0 : Below w.heap.size w wr := ((Below.refl _ _).alloc (Nat.le_refl _) _).trans (hb.mono (by omega))
    have hsz := hb.size
    simp at hsz
    have hbx : wr.cell? ⟨w.heap.size, 0, none⟩ = some (.int .i64 id) := (hb.cell (p := ⟨w.heap.size, 0, none⟩) (by simp)).trans (by simp)
    have hby : wr.cell? ⟨w.heap.size, 1, none⟩ = some (.slice (some ⟨b, off, none⟩) len cap) := (hb.cell (p := ⟨w.heap.size, 1, none⟩) (by simp)).trans (by simp)
    have HALL : Hid ((L.take k).all legB = true) := hall
    clear hall
    by_cases hlt : k < len
    · obtain ⟨s, c, n, hg, hlw, g0, g1, g2⟩ := HL.out.leg hb0 hbw k hlt
      have HG : Hid (L[k]? = some (s, c, n)) := hg
      have hs := hlw.1
      simp only at hs
      clear hg hlw
      cases hv : legB (s, c, n) with
      | true =>
        go_wp2_with (go_at_call 73; refine (implLeg _ _ _ _ hs).mono ?_; rintro e w1 ⟨rfl, hb1⟩; obtain ⟨hc1, hf1⟩ := bcell hb1)
        go_roundw
        case rel => exact ⟨k + 1, by omega, by go_num, (hb.alloc (by omega) _).trans (hb1.mono (by simp; omega)), take_all_snoc HG.out HALL.out hv⟩
        case measure => simp [intOf]; omega
      | false =>
        go_wp2_with (go_at_call 73; refine (implLeg _ _ _ _ hs).mono ?_; rintro e w1 ⟨rfl, hb1⟩; obtain ⟨hc1, hf1⟩ := bcell hb1)
        go_ret
        exact ⟨ret_bool (postB_leg HG.out hv).symm, (hb0.alloc (by omega) _).trans (hb1.mono (by simp; omega))⟩
    · go_wp2
      go_ret
      exact ⟨ret_bool (postB_yes hid hid2 (by rw [HLEN.out]; exact hl) (by rw [HLEN.out]; exact hl2) (k := k) (by rw [HLEN.out]; omega) HALL.out).symm, hb0⟩

set_option maxHeartbeats 400000 in
theorem implPostOk (id : Int) (a : Option Addr) (len cap : Nat) (L : List LegD) (w : World) (hL : LegsAt w a len cap L) :
    Calls Tryd.prog 31 #[.agg #[.int .i64 id, .slice a len cap]] w fun e w' => e = .returned (.bool (postB id L)) ∧ Below w.heap.size w w' := by
  have hlen := hL.length
  have HLEN : Hid (L.length = len) := hlen
  have hbl := hL.room
  have hbc := hL.big
  unfold maxLen at hbc
  clear hlen
  by_cases h1 : id < 0
  · clear hL
    go_enter Tryd.func31, Tryd.ntmps31
    go_wp2
    go_ret
    exact ⟨ret_bool (postB_id0 h1).symm, (Below.refl _ _).alloc (Nat.le_refl _) _⟩
  by_cases h2 : 99 < id
  · clear hL
    go_enter Tryd.func31, Tryd.ntmps31
    go_wp2
    go_ret
    exact ⟨ret_bool (postB_id1 h2).symm, (Below.refl _ _).alloc (Nat.le_refl _) _⟩
  by_cases h3 : len < 1
  · clear hL
    go_enter Tryd.func31, Tryd.ntmps31
    go_wp2
    go_ret
    exact ⟨ret_bool (postB_l0 (by rw [HLEN.out]; omega)).symm, (Below.refl _ _).alloc (Nat.le_refl _) _⟩
  by_cases h4 : 4 < len
  · clear hL
    go_enter Tryd.func31, Tryd.ntmps31
    go_wp2
    go_ret
    exact ⟨ret_bool (postB_l1 (by rw [HLEN.out]; omega)).symm, (Below.refl _ _).alloc (Nat.le_refl _) _⟩
  obtain ⟨b, off, rfl, _⟩ := hL.form (by omega)
  exact implPostOk_in id b off len cap L w hL (by omega) (by omega) (by omega) (by omega)

end Go.Proofs.YtfblpbihpmhgjaaDoor
