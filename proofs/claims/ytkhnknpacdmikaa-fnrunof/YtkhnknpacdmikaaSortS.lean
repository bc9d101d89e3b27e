/-
  What the document's l4Sort makes of entries, by a walk of its Go text.
-/
import Derived.Test.YtkhnknpacdmikaaPutE
namespace Go.Proofs.Ytkhnknpacdmikaa
open Go.RowKit

theorem sortE_snoc {L : List EntD} {k : Nat} {e : EntD} (h : L[k]? = some e) : sortE (L.take (k + 1)) = putE (sortE (L.take k)) e := by
  unfold sortE
  rw [List.take_add_one, h]
  simp
theorem sortE_len (L : List EntD) : (sortE L).length = L.length := by
  have : ∀ (L A : List EntD), (L.foldl putE A).length = A.length + L.length := by
    intro L
    induction L with
    | nil => intro A; simp
    | cons e r ih => intro A; rw [List.foldl_cons, ih, putE_len, List.length_cons]; omega
  have h := this L []
  simpa [sortE] using h

set_option maxRecDepth 100000 in
set_option maxHeartbeats 4000000 in
theorem specSort (a : Option Addr) (len cap : Nat) (L : List EntD) (w : World) (hL : EntsAt w a len cap L) (hlen : len ≤ 1048576) :
    Calls Try.prog 48 #[.slice a len cap] w fun e w' => ∃ g c, e = .returned (.slice (some ⟨g, 0, none⟩) len c) ∧ OwnE w' w.heap.size g len c (sortE L) ∧ Below w.heap.size w w' := by
  have HLEN : Hid (L.length = len) := hL.length
  have hbl := hL.room
  have hbc := hL.big
  unfold maxLen at hbc
  have HL : Hid (EntsAt w a len cap L) := hL
  clear hL
  have hO0 : OwnE (w.alloc (.cells #[] 31)) w.heap.size w.heap.size 0 0 (sortE (L.take 0)) := own_empty w _ (Nat.le_refl _)
  have HO0 : Hid (OwnE (w.alloc (.cells #[] 31)) w.heap.size w.heap.size 0 0 (sortE (L.take 0))) := hO0
  have hB0 : Below w.heap.size w (w.alloc (.cells #[] 31)) := (Below.refl _ _).alloc (Nat.le_refl _) _
  clear hO0
  go_enter Try.func48, Try.ntmps48
  go_wp2
  go_loopw [3, 4] (fun ov iv wr => ∃ (k g c : Nat), k ≤ len ∧ iv = .int .i64 k ∧ ov = .slice (some ⟨g, 0, none⟩) k c ∧ OwnE wr w.heap.size g k c (sortE (L.take k)) ∧ Below w.heap.size w wr) (fun _ iv _ => len - (intOf iv).toNat)
  case atStart => exact ⟨0, w.heap.size, 0, Nat.zero_le _, rfl, rfl, HO0.out, hB0⟩
  case round =>
    obtain ⟨k, g, c, hk, rfl, rfl, hO, hb⟩ := hrel
    have HO : Hid (OwnE wr w.heap.size g k c (sortE (L.take k))) := hO
    clear hO
    by_cases hlt : k < len
    · obtain ⟨b, off, rfl, hbb⟩ := HL.out.form (by omega)
      obtain ⟨s, q, d, t, n, hg, hlw, g0, g1, g2, g3, g4⟩ := HL.out.ent hb hbb k hlt
      have HG : Hid (L[k]? = some (s, q, d, t, n)) := hg
      have HLW : Hid (EntW (s, q, d, t, n)) := hlw
      have hbr : b < wr.heap.size := Nat.lt_of_lt_of_le hbb hb.size
      clear hg hlw
      go_wp2_with fail
      refine (specPut g k c (sortE (L.take k)) s t q d n _ HO.out.entsAt HO.out.lt.2 (by omega) HLW.out).mono ?_
      rintro e w1 ⟨g1', c1, rfl, hO1, hb1⟩
      have HO1 : Hid (OwnE w1 w.heap.size g1' (k + 1) c1 (sortE (L.take (k + 1)))) := by
        show OwnE w1 w.heap.size g1' (k + 1) c1 (sortE (L.take (k + 1)))
        rw [sortE_snoc HG.out]
        exact hO1.mono hb.size
      clear hO1
      go_wp2
      go_roundw
      case rel => exact ⟨k + 1, g1', c1, by omega, by go_num, rfl, HO1.out, hb.trans (hb1.mono hb.size)⟩
      case measure => simp [intOf]; omega
    · have hkl : k = len := by omega
      subst hkl
      go_wp2
      go_ret
      refine ⟨g, c, rfl, ?_, hb⟩
      have := HO.out
      rw [List.take_of_length_le (by rw [HLEN.out]; omega)] at this
      exact this
end Go.Proofs.Ytkhnknpacdmikaa
