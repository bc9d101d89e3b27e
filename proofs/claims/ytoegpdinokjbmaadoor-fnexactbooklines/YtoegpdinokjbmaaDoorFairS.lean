/-
  What the document's PostFair answers at every posting, by a walk of its Go text.
-/
import Derived.Test.YtoegpdinokjbmaaDoorSumS
import Derived.Test.YtoegpdinokjbmaaDoorFairP
namespace Go.Proofs.YtoegpdinokjbmaaDoor
open Go.RowKit

set_option maxHeartbeats 1000000 in
theorem specFair (id : Int) (a : Option Addr) (len cap : Nat) (L : List LegD) (w : World) (hL : LegsAt w a len cap L) :
    Calls Tryd.prog 51 #[.agg #[.int .i64 id, .slice a len cap]] w fun e w' => e = .returned (.bool (fairB id L)) ∧ Below w.heap.size w w' := by
  have HL : Hid (LegsAt w a len cap L) := hL
  have hk0 : Below w.heap.size w (w.alloc (.cells #[.int .i64 id, .slice a len cap] 43)) := (Below.refl _ _).alloc (Nat.le_refl _) _
  clear hL
  go_enter Tryd.func51, Tryd.ntmps51
  go_wp2
  go_loopw [3] (fun i wr => ∃ k : Nat, 1 ≤ k ∧ k ≤ 4 ∧ i = .int .i64 k ∧ Below (w.heap.size + 1) (w.alloc (.cells #[.int .i64 id, .slice a len cap] 43)) wr ∧ ∀ j : Nat, 1 ≤ j → j < k → totY (yieldsOf id L j) = 0) (fun i _ => 4 - (intOf i).toNat)
  case atStart => exact ⟨1, Nat.le_refl _, by omega, rfl, Below.refl _ _, fun j h1 h2 => by omega⟩
  case round =>
    obtain ⟨k, hk1', hk, rfl, hb, hz⟩ := hrel
    have HZ : Hid (∀ j : Nat, 1 ≤ j → j < k → totY (yieldsOf id L j) = 0) := hz
    clear hz
    have hx : wr.cell? ⟨w.heap.size, 0, none⟩ = some (.int .i64 id) := (hb.cell (p := ⟨w.heap.size, 0, none⟩) (by simp)).trans (by simp)
    have hy : wr.cell? ⟨w.heap.size, 1, none⟩ = some (.slice a len cap) := (hb.cell (p := ⟨w.heap.size, 1, none⟩) (by simp)).trans (by simp)
    have hsw := hb.size
    simp at hsw
    have hkr := hk0.trans (hb.mono (by omega))
    have hLr := HL.out.keep hkr
    by_cases hlt : k ≤ 3
    · by_cases ht : totY (yieldsOf id L k) = 0
      · have HT : Hid (totY (yieldsOf id L k) = 0) := ht
        go_wp2_with (go_at_call 70; refine (specSum _ _ _ _ _ L _ hLr).mono ?_; rintro e w2 ⟨rfl, hb2⟩)
        go_roundw
        case rel => exact ⟨k + 1, by omega, by omega, by go_num, hb.trans (hb2.mono (by omega)), upto_step HZ.out HT.out⟩
        case measure => simp [intOf]; omega
      · have HT : Hid (¬ totY (yieldsOf id L k) = 0) := ht
        have hne : (totY (yieldsOf id L k) != 0) = true := by simpa using ht
        go_wp2_with (go_at_call 70; refine (specSum _ _ _ _ _ L _ hLr).mono ?_; rintro e w2 ⟨rfl, hb2⟩)
        go_ret
        exact ⟨ret_bool (fairB_no hk1' hlt HT.out).symm, hkr.trans (hb2.mono hkr.size)⟩
    · go_wp2_with (go_at_call 71; refine (specPostOk _ _ _ _ L _ hLr).mono ?_; rintro e w2 ⟨rfl, hb2⟩)
      go_ret
      exact ⟨ret_bool (fairB_all (fun j h1 h2 => HZ.out j h1 (by omega))).symm, hkr.trans (hb2.mono hkr.size)⟩

end Go.Proofs.YtoegpdinokjbmaaDoor
