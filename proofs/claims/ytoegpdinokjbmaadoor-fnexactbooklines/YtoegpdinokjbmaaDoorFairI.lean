/-
  What the program's PostFair answers at every posting, by a walk of its Go text.
-/
import Derived.Test.YtoegpdinokjbmaaDoorSumI
import Derived.Test.YtoegpdinokjbmaaDoorFairP
namespace Go.Proofs.YtoegpdinokjbmaaDoor
open Go.RowKit

set_option maxHeartbeats 1000000 in
theorem implFair (id : Int) (a : Option Addr) (len cap : Nat) (L : List LegD) (w : World) (hL : LegsAt w a len cap L) :
    Calls Tryd.prog 28 #[.agg #[.int .i64 id, .slice a len cap]] w fun e w' => e = .returned (.bool (fairB id L)) ∧ Below w.heap.size w w' := by
  have HL : Hid (LegsAt w a len cap L) := hL
  have hk0 : Below w.heap.size w (w.alloc (.cells #[.int .i64 id, .slice a len cap] 43)) := (Below.refl _ _).alloc (Nat.le_refl _) _
  have hL0 := hL.keep hk0
  clear hL
  cases hp : postB id L with
  | false =>
    go_enter Tryd.func28, Tryd.ntmps28
    go_wp2_with (go_at_call 49; refine (implPostOk _ _ _ _ L _ hL0).mono ?_; rintro e w1 ⟨rfl, hb1⟩)
    go_ret
    exact ⟨ret_bool (fairB_bad hp).symm, hk0.trans (hb1.mono (by simp))⟩
  | true =>
    go_enter Tryd.func28, Tryd.ntmps28
    go_wp2_with (go_at_call 49; refine (implPostOk _ _ _ _ L _ hL0).mono ?_; rintro e w1 ⟨rfl, hb1⟩)
    have hk1 : Below w.heap.size w w1 := hk0.trans (hb1.mono (by simp))
    have hx1 : w1.cell? ⟨w.heap.size, 0, none⟩ = some (.int .i64 id) := cell_later hb1 (by simp)
    have hy1 : w1.cell? ⟨w.heap.size, 1, none⟩ = some (.slice a len cap) := cell_later hb1 (by simp)
    clear hb1 hL0 hk0
    go_loopw [3] (fun i wr => ∃ k : Nat, 1 ≤ k ∧ k ≤ 4 ∧ i = .int .i64 k ∧ Below w1.heap.size w1 wr ∧ ∀ j : Nat, 1 ≤ j → j < k → totY (yieldsOf id L j) = 0) (fun i _ => 4 - (intOf i).toNat)
    case atStart => exact ⟨1, Nat.le_refl _, by omega, rfl, Below.refl _ _, fun j h1 h2 => by omega⟩
    case round =>
      obtain ⟨k, hk1', hk, rfl, hb, hz⟩ := hrel
      have HZ : Hid (∀ j : Nat, 1 ≤ j → j < k → totY (yieldsOf id L j) = 0) := hz
      clear hz
      have hx := cell_later hb hx1
      have hy := cell_later hb hy1
      have hkr := hk1.trans (hb.mono hk1.size)
      have hLr := HL.out.keep hkr
      by_cases hlt : k ≤ 3
      · by_cases ht : totY (yieldsOf id L k) = 0
        · have HT : Hid (totY (yieldsOf id L k) = 0) := ht
          go_wp2_with (go_at_call 50; refine (implSum _ _ _ _ _ L _ hLr).mono ?_; rintro e w2 ⟨rfl, hb2⟩)
          go_roundw
          case rel => exact ⟨k + 1, by omega, by omega, by go_num, hb.trans (hb2.mono hb.size), upto_step HZ.out HT.out⟩
          case measure => simp [intOf]; omega
        · have HT : Hid (¬ totY (yieldsOf id L k) = 0) := ht
          have hne : (totY (yieldsOf id L k) != 0) = true := by simpa using ht
          go_wp2_with (go_at_call 50; refine (implSum _ _ _ _ _ L _ hLr).mono ?_; rintro e w2 ⟨rfl, hb2⟩)
          go_ret
          exact ⟨ret_bool (fairB_no hk1' hlt HT.out).symm, hkr.trans (hb2.mono hkr.size)⟩
      · go_wp2
        go_ret
        exact ⟨ret_bool (fairB_yes hp (fun j h1 h2 => HZ.out j h1 (by omega))).symm, hkr⟩

end Go.Proofs.YtoegpdinokjbmaaDoor
