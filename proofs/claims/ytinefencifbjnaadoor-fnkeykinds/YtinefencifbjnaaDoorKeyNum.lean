/-
  The program's keys of numbers, and the document's, by walks of their Go text.
-/
import Derived.Test.YtinefencifbjnaaDoorBuild
import Derived.Test.YtinefencifbjnaaDoorTwo
namespace Go.Proofs.YtinefencifbjnaaDoor
open Go.RowKit Go.Shelf

/-- The key of a number: what it is of, a sign, two digits. -/
def numKey (c : UInt8) (n : Int) : ByteArray := ⟨#[c, 47, dig (n / 10), dig (n % 10)]⟩
def keyN (c : UInt8) (n most : Int) : ByteArray := if n < 0 ∨ most < n then ⟨#[]⟩ else numKey c n

set_option maxHeartbeats 2000000 in
set_option maxRecDepth 100000 in
theorem keyNum_yes (c : UInt8) (n most : Int) (w : World) (h0 : 0 ≤ n) (h1 : n ≤ most) (h2 : most ≤ 99) :
    Calls Tryd.prog 29 #[.int .u8 c.toNat, .int .i64 n, .int .i64 most] w fun e w' => e = .returned (.string (numKey c n)) ∧ Below w.heap.size w w' := by
  go_enter Tryd.func29, Tryd.ntmps29
  go_wp2_with fail
  have hB0 : Lib.IsBuilder 39 5 w.heap.size w.heap.size [] (w.alloc (.cells #[.pointer none, .slice none 0 0] 39)) := Lib.fresh_isBuilder _ _ w
  have k0 : Below w.heap.size w (w.alloc (.cells #[.pointer none, .slice none 0 0] 39)) := (Below.refl _ _).alloc (Nat.le_refl _) _
  refine (writeByte_any w.heap.size w.heap.size [] c.toNat _ hB0 (by decide) k0.size).mono ?_
  rintro e w1 ⟨rfl, hB1, hb1⟩
  have k1 := k0.trans hb1
  clear hB0 k0 hb1
  go_wp2_with fail
  refine (writeByte_any w.heap.size w.heap.size _ 47 _ (Or.inr hB1) (by simp) k1.size).mono ?_
  rintro e w2 ⟨rfl, hB2, hb2⟩
  have k2 := k1.trans hb2
  clear hB1 k1 hb2
  go_wp2_with fail
  refine (writeByte_any w.heap.size w.heap.size _ (48 + n / 10) _ (Or.inr hB2) (by simp) k2.size).mono ?_
  rintro e w3 ⟨rfl, hB3, hb3⟩
  have k3 := k2.trans hb3
  clear hB2 k2 hb3
  go_wp2_with fail
  refine (writeByte_any w.heap.size w.heap.size _ (48 + n % 10) _ (Or.inr hB3) (by simp) k3.size).mono ?_
  rintro e w4 ⟨rfl, hB4, hb4⟩
  have k4 := k3.trans hb4
  clear hB3 k3 hb4
  have hl : [] ++ [Value.int .u8 (c.toNat : Int)] ++ [Value.int .u8 47] ++ [Value.int .u8 (48 + n / 10)] ++ [Value.int .u8 (48 + n % 10)] = Lib.byteCells [c, 47, dig (n / 10), dig (n % 10)] := by
    have e1 := dig_nat (n / 10) (by omega) (by omega)
    have e2 := dig_nat (n % 10) (by omega) (by omega)
    simp [Lib.byteCells, e1, e2]
  rw [hl] at hB4
  go_wp2_with fail
  refine (Tryd.Builder_String w.heap.size w.heap.size _ _ (Or.inr hB4) (by simp)).mono ?_
  rintro e w5 ⟨rfl, hb5⟩
  go_wp2
  go_ret
  exact ⟨rfl, k4.trans hb5⟩

set_option maxHeartbeats 2000000 in
set_option maxRecDepth 100000 in
theorem keyNum_no (c n most : Int) (w : World) (h : n < 0 ∨ most < n) :
    Calls Tryd.prog 29 #[.int .u8 c, .int .i64 n, .int .i64 most] w fun e w' => e = .returned (.string ⟨#[]⟩) ∧ w' = w := by
  rcases h with h | h
  · go_enter Tryd.func29, Tryd.ntmps29
    go_wp2
    go_ret
    exact ⟨rfl, rfl⟩
  · by_cases h0 : n < 0
    · go_enter Tryd.func29, Tryd.ntmps29
      go_wp2
      go_ret
      exact ⟨rfl, rfl⟩
    · go_enter Tryd.func29, Tryd.ntmps29
      go_wp2
      go_ret
      exact ⟨rfl, rfl⟩

set_option maxHeartbeats 2000000 in
set_option maxRecDepth 100000 in
theorem implKeyId (n : Int) (w : World) :
    Calls Tryd.prog 13 #[.int .i64 n] w fun e w' => e = .returned (.string (keyN 105 n 99)) ∧ Below w.heap.size w w' := by
  by_cases h : n < 0 ∨ 99 < n
  · go_enter Tryd.func13, Tryd.ntmps13
    go_wp2_with fail
    refine (keyNum_no _ _ _ _ h).mono ?_
    rintro e w1 ⟨rfl, rfl⟩
    go_wp2
    go_ret
    exact ⟨by rw [keyN, if_pos h]; rfl, Below.refl _ _⟩
  · go_enter Tryd.func13, Tryd.ntmps13
    go_wp2_with fail
    refine (keyNum_yes 105 n 99 _ (by omega) (by omega) (by omega)).mono ?_
    rintro e w1 ⟨rfl, hb1⟩
    go_wp2
    go_ret
    exact ⟨by rw [keyN, if_neg h]; rfl, hb1⟩

set_option maxHeartbeats 2000000 in
set_option maxRecDepth 100000 in
theorem implKeyLog (n : Int) (w : World) :
    Calls Tryd.prog 14 #[.int .i64 n] w fun e w' => e = .returned (.string (keyN 106 n 99)) ∧ Below w.heap.size w w' := by
  by_cases h : n < 0 ∨ 99 < n
  · go_enter Tryd.func14, Tryd.ntmps14
    go_wp2_with fail
    refine (keyNum_no _ _ _ _ h).mono ?_
    rintro e w1 ⟨rfl, rfl⟩
    go_wp2
    go_ret
    exact ⟨by rw [keyN, if_pos h]; rfl, Below.refl _ _⟩
  · go_enter Tryd.func14, Tryd.ntmps14
    go_wp2_with fail
    refine (keyNum_yes 106 n 99 _ (by omega) (by omega) (by omega)).mono ?_
    rintro e w1 ⟨rfl, hb1⟩
    go_wp2
    go_ret
    exact ⟨by rw [keyN, if_neg h]; rfl, hb1⟩

set_option maxHeartbeats 2000000 in
set_option maxRecDepth 100000 in
theorem specKeyId (n : Int) (w : World) :
    Calls Tryd.prog 15 #[.int .i64 n] w fun e w' => e = .returned (.string (keyN 105 n 99)) ∧ Below w.heap.size w w' := by
  by_cases h : n < 0 ∨ 99 < n
  · have hk : keyN 105 n 99 = ⟨#[]⟩ := by rw [keyN, if_pos h]
    rw [hk]
    rcases h with h | h
    · go_enter Tryd.func15, Tryd.ntmps15
      go_wp2
      go_ret
      exact ⟨rfl, Below.refl _ _⟩
    · have h' : ¬ n < 0 := by omega
      go_enter Tryd.func15, Tryd.ntmps15
      go_wp2
      go_ret
      exact ⟨rfl, Below.refl _ _⟩
  · have h1 : 0 ≤ n := by omega
    have h2 : n ≤ 99 := by omega
    have hk : keyN 105 n 99 = numKey 105 n := by rw [keyN, if_neg h]
    rw [hk]
    clear h
    go_enter Tryd.func15, Tryd.ntmps15
    go_wp2_with fail
    refine (two_small n _ h1 h2).mono ?_
    rintro e w1 ⟨rfl, hb1⟩
    go_wp2
    go_ret
    exact ⟨rfl, hb1⟩

set_option maxHeartbeats 2000000 in
set_option maxRecDepth 100000 in
theorem specKeyLog (n : Int) (w : World) :
    Calls Tryd.prog 16 #[.int .i64 n] w fun e w' => e = .returned (.string (keyN 106 n 99)) ∧ Below w.heap.size w w' := by
  by_cases h : n < 0 ∨ 99 < n
  · have hk : keyN 106 n 99 = ⟨#[]⟩ := by rw [keyN, if_pos h]
    rw [hk]
    rcases h with h | h
    · go_enter Tryd.func16, Tryd.ntmps16
      go_wp2
      go_ret
      exact ⟨rfl, Below.refl _ _⟩
    · have h' : ¬ n < 0 := by omega
      go_enter Tryd.func16, Tryd.ntmps16
      go_wp2
      go_ret
      exact ⟨rfl, Below.refl _ _⟩
  · have h1 : 0 ≤ n := by omega
    have h2 : n ≤ 99 := by omega
    have hk : keyN 106 n 99 = numKey 106 n := by rw [keyN, if_neg h]
    rw [hk]
    clear h
    go_enter Tryd.func16, Tryd.ntmps16
    go_wp2_with fail
    refine (two_small n _ h1 h2).mono ?_
    rintro e w1 ⟨rfl, hb1⟩
    go_wp2
    go_ret
    exact ⟨rfl, hb1⟩

end Go.Proofs.YtinefencifbjnaaDoor
