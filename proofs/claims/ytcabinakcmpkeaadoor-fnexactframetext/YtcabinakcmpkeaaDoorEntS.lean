/-
  What the document's EntryOk answers at every entry, by a walk of its Go text.
-/
import Derived.Test.YtcabinakcmpkeaaDoorKey
import Derived.Test.YtcabinakcmpkeaaDoorBase
namespace Go.Proofs.YtcabinakcmpkeaaDoor
open Go.RowKit

set_option maxHeartbeats 400000 in
theorem specEnt (k t : ByteArray) (q d n : Int) (w : World) (hs : k.size ≤ maxLen) (ht : t.size ≤ maxLen) :
    Calls Tryd.prog 79 #[.agg #[.string k, .int .i64 q, .int .i64 d, .string t, .int .i64 n]] w fun e w' => e = .returned (.bool (entB k q d t n)) ∧ Below w.heap.size w w' := by
  have ht' := ht
  unfold maxLen at ht'
  cases hk : keyB k with
  | false =>
    go_enter Tryd.func79, Tryd.ntmps79
    go_wp2_with (first | (go_at_call 99; refine (specKey _ _ hs).mono ?_; rintro e w' ⟨rfl, rfl⟩) | go_in)
    go_ret
    exact ⟨ret_bool (entB_key hk).symm, (Below.refl _ _).alloc (Nat.le_refl _) _⟩
  | true =>
    by_cases h1 : q < 1
    · go_enter Tryd.func79, Tryd.ntmps79
      go_wp2_with (first | (go_at_call 99; refine (specKey _ _ hs).mono ?_; rintro e w' ⟨rfl, rfl⟩) | go_in)
      go_ret
      exact ⟨ret_bool (entB_q1 h1).symm, (Below.refl _ _).alloc (Nat.le_refl _) _⟩
    by_cases h2 : 100000 < q
    · go_enter Tryd.func79, Tryd.ntmps79
      go_wp2_with (first | (go_at_call 99; refine (specKey _ _ hs).mono ?_; rintro e w' ⟨rfl, rfl⟩) | go_in)
      go_ret
      exact ⟨ret_bool (entB_q2 h2).symm, (Below.refl _ _).alloc (Nat.le_refl _) _⟩
    by_cases h3 : n < -1000000
    · go_enter Tryd.func79, Tryd.ntmps79
      go_wp2_with (first | (go_at_call 99; refine (specKey _ _ hs).mono ?_; rintro e w' ⟨rfl, rfl⟩) | go_in)
      go_ret
      exact ⟨ret_bool (entB_n1 h3).symm, (Below.refl _ _).alloc (Nat.le_refl _) _⟩
    by_cases h4 : 1000000 < n
    · go_enter Tryd.func79, Tryd.ntmps79
      go_wp2_with (first | (go_at_call 99; refine (specKey _ _ hs).mono ?_; rintro e w' ⟨rfl, rfl⟩) | go_in)
      go_ret
      exact ⟨ret_bool (entB_n2 h4).symm, (Below.refl _ _).alloc (Nat.le_refl _) _⟩
    by_cases h5 : 60 < t.size
    · go_enter Tryd.func79, Tryd.ntmps79
      go_wp2_with (first | (go_at_call 99; refine (specKey _ _ hs).mono ?_; rintro e w' ⟨rfl, rfl⟩) | go_in)
      go_ret
      exact ⟨ret_bool (entB_t h5).symm, (Below.refl _ _).alloc (Nat.le_refl _) _⟩
    by_cases d1 : d = 1
    · subst d1
      go_enter Tryd.func79, Tryd.ntmps79
      go_wp2_with (first | (go_at_call 99; refine (specKey _ _ hs).mono ?_; rintro e w' ⟨rfl, rfl⟩) | go_in)
      go_ret
      refine ⟨ret_bool ?_, (Below.refl _ _).alloc (Nat.le_refl _) _⟩
      rw [entB_rest hk (by omega) (by omega) (by omega) (by omega) (by omega)]
      exact kindB_1.symm
    by_cases d2 : d = 2
    · subst d2
      by_cases t0 : t = ByteArray.empty
      · subst t0
        by_cases n0 : n = 0
        · subst n0
          go_enter Tryd.func79, Tryd.ntmps79
          go_wp2_with (first | (go_at_call 99; refine (specKey _ _ hs).mono ?_; rintro e w' ⟨rfl, rfl⟩) | go_in)
          go_ret
          refine ⟨ret_bool ?_, (Below.refl _ _).alloc (Nat.le_refl _) _⟩
          rw [entB_rest hk (by omega) (by omega) (by omega) (by omega) (by omega)]
          rw [kindB_2]; rfl
        · have n1 : (n == 0) = false := by simpa using n0
          go_enter Tryd.func79, Tryd.ntmps79
          go_wp2_with (first | (go_at_call 99; refine (specKey _ _ hs).mono ?_; rintro e w' ⟨rfl, rfl⟩) | go_in)
          go_ret
          refine ⟨ret_bool ?_, (Below.refl _ _).alloc (Nat.le_refl _) _⟩
          rw [entB_rest hk (by omega) (by omega) (by omega) (by omega) (by omega)]
          rw [kindB_2]; simp [n0]
      · have t1 := size_pos_of_ne t0
        have t2 := toList_ne t0
        go_enter Tryd.func79, Tryd.ntmps79
        go_wp2_with (first | (go_at_call 99; refine (specKey _ _ hs).mono ?_; rintro e w' ⟨rfl, rfl⟩) | go_in)
        go_ret
        refine ⟨ret_bool ?_, (Below.refl _ _).alloc (Nat.le_refl _) _⟩
        rw [entB_rest hk (by omega) (by omega) (by omega) (by omega) (by omega)]
        rw [kindB_2]; simp [t1]
    by_cases d3 : d = 3
    · subst d3
      by_cases t0 : t = ByteArray.empty
      · subst t0
        go_enter Tryd.func79, Tryd.ntmps79
        go_wp2_with (first | (go_at_call 99; refine (specKey _ _ hs).mono ?_; rintro e w' ⟨rfl, rfl⟩) | go_in)
        go_ret
        refine ⟨ret_bool ?_, (Below.refl _ _).alloc (Nat.le_refl _) _⟩
        rw [entB_rest hk (by omega) (by omega) (by omega) (by omega) (by omega)]
        rw [kindB_3]; rfl
      · have t1 := size_pos_of_ne t0
        have t2 := toList_ne t0
        go_enter Tryd.func79, Tryd.ntmps79
        go_wp2_with (first | (go_at_call 99; refine (specKey _ _ hs).mono ?_; rintro e w' ⟨rfl, rfl⟩) | go_in)
        go_ret
        refine ⟨ret_bool ?_, (Below.refl _ _).alloc (Nat.le_refl _) _⟩
        rw [entB_rest hk (by omega) (by omega) (by omega) (by omega) (by omega)]
        rw [kindB_3]; simp [t1, t2]
    have e1 : (d == 1) = false := by simpa using d1
    have e2 : (d == 2) = false := by simpa using d2
    have e3 : (d == 3) = false := by simpa using d3
    go_enter Tryd.func79, Tryd.ntmps79
    go_wp2_with (first | (go_at_call 99; refine (specKey _ _ hs).mono ?_; rintro e w' ⟨rfl, rfl⟩) | go_in)
    go_ret
    refine ⟨ret_bool ?_, (Below.refl _ _).alloc (Nat.le_refl _) _⟩
    rw [entB_rest hk (by omega) (by omega) (by omega) (by omega) (by omega)]
    exact (kindB_0 d1 d2 d3).symm

end Go.Proofs.YtcabinakcmpkeaaDoor
