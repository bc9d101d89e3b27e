/-
  Pieces of the program's TreeOk: its levels, by a walk of their Go text.
-/
import Derived.Test.YtlmgojlffgkciaaGreatCe16
namespace Go.Proofs.YtlmgojlffgkciaaGreat
open Go.RowKit
set_option maxRecDepth 100000
set_option maxHeartbeats 16000000
def ok0 (B : List RunD) : Bool := decide ((B.length : Int) ≤ 4) && !badB B
def ok1 (B : List RunD) : Bool := decide ((B.length : Int) ≤ 8) && (!badB B && levApart B)
def levelsI (A B C : List RunD) : Bool := ok0 A && (ok1 B && ok1 C)
theorem idx_0 (w : World) (a0 a1 a2 : Option Addr) (n0 c0 n1 c1 n2 c2 : Nat) : (Instr.index 65 (.agg #[.slice a0 n0 c0, .slice a1 n1 c1, .slice a2 n2 c2]) (.int .i64 0)).run Tryz.prog w = .ok (.slice a0 n0 c0) w := by
  simp [Instr.index, run_underlying Tryz.underlying65, asIntOf, go_sem, Tryz.isAgg64, Tryz.sizeOf64, part]
theorem idx_1 (w : World) (a0 a1 a2 : Option Addr) (n0 c0 n1 c1 n2 c2 : Nat) : (Instr.index 65 (.agg #[.slice a0 n0 c0, .slice a1 n1 c1, .slice a2 n2 c2]) (.int .i64 1)).run Tryz.prog w = .ok (.slice a1 n1 c1) w := by
  simp [Instr.index, run_underlying Tryz.underlying65, asIntOf, go_sem, Tryz.isAgg64, Tryz.sizeOf64, part]
theorem idx_2 (w : World) (a0 a1 a2 : Option Addr) (n0 c0 n1 c1 n2 c2 : Nat) : (Instr.index 65 (.agg #[.slice a0 n0 c0, .slice a1 n1 c1, .slice a2 n2 c2]) (.int .i64 2)).run Tryz.prog w = .ok (.slice a2 n2 c2) w := by
  simp [Instr.index, run_underlying Tryz.underlying65, asIntOf, go_sem, Tryz.isAgg64, Tryz.sizeOf64, part]
theorem implLevels (lo : Nat) (q : Int) (am ak : Option Addr) (nm cm nk ck : Nat) (a0 a1 a2 : Option Addr) (n0 c0 n1 c1 n2 c2 : Nat) (A B C : List RunD) (w : World) (h0 : RunsIn lo w a0 n0 c0 A) (h1 : RunsIn lo w a1 n1 c1 B) (h2 : RunsIn lo w a2 n2 c2 C) :
    Calls Tryz.prog 128 #[.agg #[.int .i64 q, .slice am nm cm, .slice a0 n0 c0, .slice a1 n1 c1, .slice a2 n2 c2, .slice ak nk ck]] w fun e w' => e = .returned (.bool (levelsI A B C)) ∧ Below w.heap.size w w' := by
  have HR0 : Hid (RunsIn lo w a0 n0 c0 A) := h0
  have HR1 : Hid (RunsIn lo w a1 n1 c1 B) := h1
  have HR2 : Hid (RunsIn lo w a2 n2 c2 C) := h2
  have HN0 : Hid (A.length = n0) := h0.length
  have HN1 : Hid (B.length = n1) := h1.length
  have HN2 : Hid (C.length = n2) := h2.length
  clear h0 h1 h2
  go_enter Tryz.func128, Tryz.ntmps128
  go_upto_region 1 with fail
  obtain ⟨W, hW⟩ : ∃ W, W = w.alloc (.cells #[.int .i64 q, .slice am nm cm, .slice a0 n0 c0, .slice a1 n1 c1, .slice a2 n2 c2, .slice ak nk ck] 67) := ⟨_, rfl⟩
  have kW : Below w.heap.size w W := by rw [hW]; exact (Below.refl _ _).alloc (Nat.le_refl _) _
  have x2 : W.cell? ⟨w.heap.size, 2, none⟩ = some (.slice a0 n0 c0) := by rw [hW]; simp
  have x3 : W.cell? ⟨w.heap.size, 3, none⟩ = some (.slice a1 n1 c1) := by rw [hW]; simp
  have x4 : W.cell? ⟨w.heap.size, 4, none⟩ = some (.slice a2 n2 c2) := by rw [hW]; simp
  have zX := World.block_lt_of_cell? _ _ x2
  have HKW : Hid (∀ wr, Below W.heap.size W wr → Below w.heap.size w wr) := fun wr k => kW.trans (k.mono kW.size)
  rw [← hW]
  clear hW kW
  go_wp2
  go_loopw [7] (fun iv wr => ∃ i : Nat, i ≤ 3 ∧ iv = .int .i64 i ∧ Below W.heap.size W wr ∧ (1 ≤ i → ok0 A = true) ∧ (2 ≤ i → ok1 B = true) ∧ (3 ≤ i → ok1 C = true)) (fun iv _ => 3 - (intOf iv).toNat)
  case atStart => exact ⟨0, by omega, rfl, Below.refl _ _, fun h => absurd h (by omega), fun h => absurd h (by omega), fun h => absurd h (by omega)⟩
  case round =>
    obtain ⟨i, hi, rfl, hb, hw0, hw1, hw2⟩ := hrel
    have HB : Hid (Below W.heap.size W wr) := hb
    have HW0 : Hid (1 ≤ i → ok0 A = true) := hw0
    have HW1 : Hid (2 ≤ i → ok1 B = true) := hw1
    have HW2 : Hid (3 ≤ i → ok1 C = true) := hw2
    clear hb hw0 hw1 hw2
    have hcase : i = 0 ∨ i = 1 ∨ i = 2 ∨ i = 3 := by omega
    rcases hcase with hI | hI | hI | hI
    · skip
      subst hI
      by_cases hl : (4 : Int) < (n0 : Int)
      · have HN : Hid (levelsI A B C = false) := by
          have h1 : decide ((A.length : Int) ≤ 4) = false := decide_eq_false (by have := HN0.out; omega)
          show levelsI A B C = false
          unfold levelsI ok0 ok1
          rw [h1]
          simp
        go_wp2_with fail
        rw [idx_0]
        go_wp2_with fail
        refine (implMost0 wr).mono ?_
        rintro e w' ⟨rfl, rfl⟩
        go_wp2
        go_ret
        exact ⟨ret_bool HN.out.symm, HKW.out _ HB.out⟩
      have HL : Hid (decide ((A.length : Int) ≤ 4) = true) := decide_eq_true (by have := HN0.out; omega)
      obtain ⟨O, hO⟩ : ∃ O, O = badB A := ⟨_, rfl⟩
      go_wp2_with fail
      rw [idx_0]
      go_wp2_with fail
      refine (implMost0 wr).mono ?_
      rintro e w' ⟨rfl, rfl⟩
      go_wp2_with fail
      refine (containsBad lo a0 n0 c0 A _ (HR0.out.keep (HKW.out _ HB.out))).mono ?_
      rw [← hO]
      rintro e w1 ⟨rfl, hb1⟩
      have K1 : Hid (Below W.heap.size W w1) := HB.out.trans (hb1.mono HB.out.size)
      clear hb1
      cases hOv : O with
      | true =>
        have HN : Hid (levelsI A B C = false) := by
          have h1 : badB A = true := by rw [← hO, hOv]
          show levelsI A B C = false
          unfold levelsI ok0 ok1
          rw [h1]
          simp
        go_wp2
        go_ret
        exact ⟨ret_bool HN.out.symm, HKW.out _ K1.out⟩
      | false =>
        have HN : Hid (ok0 A = true) := by
          have h1 : badB A = false := by rw [← hO, hOv]
          show ok0 A = true
          unfold ok0
          rw [HL.out, h1]
          rfl
        go_wp2
        go_roundw
        case rel => exact ⟨1, by omega, rfl, K1.out, fun _ => HN.out, fun h => absurd h (by omega), fun h => absurd h (by omega)⟩
        case measure => simp [intOf]
    · skip
      subst hI
      by_cases hl : (8 : Int) < (n1 : Int)
      · have HN : Hid (levelsI A B C = false) := by
          have h1 : decide ((B.length : Int) ≤ 8) = false := decide_eq_false (by have := HN1.out; omega)
          show levelsI A B C = false
          unfold levelsI ok0 ok1
          rw [h1]
          simp
        go_wp2_with fail
        rw [idx_1]
        go_wp2_with fail
        refine (implMost1 1 wr (by omega)).mono ?_
        rintro e w' ⟨rfl, rfl⟩
        go_wp2
        go_ret
        exact ⟨ret_bool HN.out.symm, HKW.out _ HB.out⟩
      have HL : Hid (decide ((B.length : Int) ≤ 8) = true) := decide_eq_true (by have := HN1.out; omega)
      obtain ⟨O, hO⟩ : ∃ O, O = badB B := ⟨_, rfl⟩
      go_wp2_with fail
      rw [idx_1]
      go_wp2_with fail
      refine (implMost1 1 wr (by omega)).mono ?_
      rintro e w' ⟨rfl, rfl⟩
      go_wp2_with fail
      refine (containsBad lo a1 n1 c1 B _ (HR1.out.keep (HKW.out _ HB.out))).mono ?_
      rw [← hO]
      rintro e w1 ⟨rfl, hb1⟩
      have K1 : Hid (Below W.heap.size W w1) := HB.out.trans (hb1.mono HB.out.size)
      clear hb1
      cases hOv : O with
      | true =>
        have HN : Hid (levelsI A B C = false) := by
          have h1 : badB B = true := by rw [← hO, hOv]
          show levelsI A B C = false
          unfold levelsI ok0 ok1
          rw [h1]
          simp
        go_wp2
        go_ret
        exact ⟨ret_bool HN.out.symm, HKW.out _ K1.out⟩
      | false =>
        have HBF : Hid (badB B = false) := by show _ = _; rw [← hO, hOv]
        obtain ⟨G, hG⟩ : ∃ G, G = levApart B := ⟨_, rfl⟩
        go_wp2_with fail
        refine (implApart lo a1 n1 c1 B _ (HR1.out.keep (HKW.out _ K1.out)) (fun r hr => (runB_parts (bad_all HBF.out r hr)).1)).mono ?_
        rw [← hG]
        rintro e w2 ⟨rfl, hb2⟩
        have K2 : Hid (Below W.heap.size W w2) := K1.out.trans (hb2.mono K1.out.size)
        clear hb2
        cases hGv : G with
        | false =>
          have HN : Hid (levelsI A B C = false) := by
            have h1 : levApart B = false := by rw [← hG, hGv]
            show levelsI A B C = false
            unfold levelsI ok0 ok1
            rw [h1]
            simp
          go_wp2
          go_ret
          exact ⟨ret_bool HN.out.symm, HKW.out _ K2.out⟩
        | true =>
          have HN : Hid (ok1 B = true) := by
            have h1 : levApart B = true := by rw [← hG, hGv]
            show ok1 B = true
            unfold ok1
            rw [HL.out, HBF.out, h1]
            rfl
          go_wp2
          go_roundw
          case rel => exact ⟨2, by omega, rfl, K2.out, fun _ => HW0.out (by omega), fun _ => HN.out, fun h => absurd h (by omega)⟩
          case measure => simp [intOf]
    · skip
      subst hI
      by_cases hl : (8 : Int) < (n2 : Int)
      · have HN : Hid (levelsI A B C = false) := by
          have h1 : decide ((C.length : Int) ≤ 8) = false := decide_eq_false (by have := HN2.out; omega)
          show levelsI A B C = false
          unfold levelsI ok0 ok1
          rw [h1]
          simp
        go_wp2_with fail
        rw [idx_2]
        go_wp2_with fail
        refine (implMost1 2 wr (by omega)).mono ?_
        rintro e w' ⟨rfl, rfl⟩
        go_wp2
        go_ret
        exact ⟨ret_bool HN.out.symm, HKW.out _ HB.out⟩
      have HL : Hid (decide ((C.length : Int) ≤ 8) = true) := decide_eq_true (by have := HN2.out; omega)
      obtain ⟨O, hO⟩ : ∃ O, O = badB C := ⟨_, rfl⟩
      go_wp2_with fail
      rw [idx_2]
      go_wp2_with fail
      refine (implMost1 2 wr (by omega)).mono ?_
      rintro e w' ⟨rfl, rfl⟩
      go_wp2_with fail
      refine (containsBad lo a2 n2 c2 C _ (HR2.out.keep (HKW.out _ HB.out))).mono ?_
      rw [← hO]
      rintro e w1 ⟨rfl, hb1⟩
      have K1 : Hid (Below W.heap.size W w1) := HB.out.trans (hb1.mono HB.out.size)
      clear hb1
      cases hOv : O with
      | true =>
        have HN : Hid (levelsI A B C = false) := by
          have h1 : badB C = true := by rw [← hO, hOv]
          show levelsI A B C = false
          unfold levelsI ok0 ok1
          rw [h1]
          simp
        go_wp2
        go_ret
        exact ⟨ret_bool HN.out.symm, HKW.out _ K1.out⟩
      | false =>
        have HBF : Hid (badB C = false) := by show _ = _; rw [← hO, hOv]
        obtain ⟨G, hG⟩ : ∃ G, G = levApart C := ⟨_, rfl⟩
        go_wp2_with fail
        refine (implApart lo a2 n2 c2 C _ (HR2.out.keep (HKW.out _ K1.out)) (fun r hr => (runB_parts (bad_all HBF.out r hr)).1)).mono ?_
        rw [← hG]
        rintro e w2 ⟨rfl, hb2⟩
        have K2 : Hid (Below W.heap.size W w2) := K1.out.trans (hb2.mono K1.out.size)
        clear hb2
        cases hGv : G with
        | false =>
          have HN : Hid (levelsI A B C = false) := by
            have h1 : levApart C = false := by rw [← hG, hGv]
            show levelsI A B C = false
            unfold levelsI ok0 ok1
            rw [h1]
            simp
          go_wp2
          go_ret
          exact ⟨ret_bool HN.out.symm, HKW.out _ K2.out⟩
        | true =>
          have HN : Hid (ok1 C = true) := by
            have h1 : levApart C = true := by rw [← hG, hGv]
            show ok1 C = true
            unfold ok1
            rw [HL.out, HBF.out, h1]
            rfl
          go_wp2
          go_roundw
          case rel => exact ⟨3, by omega, rfl, K2.out, fun _ => HW0.out (by omega), fun _ => HW1.out (by omega), fun _ => HN.out⟩
          case measure => simp [intOf]
    · subst hI
      have HC : Hid (levelsI A B C = true) := by
        show levelsI A B C = true
        unfold levelsI
        rw [HW0.out (by omega), HW1.out (by omega), HW2.out (by omega)]
        rfl
      go_wp2
      go_ret
      exact ⟨ret_bool HC.out.symm, HKW.out _ HB.out⟩
end Go.Proofs.YtlmgojlffgkciaaGreat
