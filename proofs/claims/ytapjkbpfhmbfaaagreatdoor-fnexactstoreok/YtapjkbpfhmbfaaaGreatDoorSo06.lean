/-
  What the document's EntryOk answers at every entry, by a walk of its Go text.
  What the program makes of an entry's kind: the four types behind its interface, what each says of an entry and does to a cell, by walks of their Go text.
  What the program's EntryOk answers at every entry, by walks of its Go text.
-/
import Derived.Test.YtapjkbpfhmbfaaaGreatDoorSo05
import Derived.Test.YtapjkbpfhmbfaaaGreatDoorSo01
import Derived.Deep.RegionHeld3
import Derived.Deep.DeepCutAuto
import Derived.Deep.QuietTactic
import Derived.BigQuiet
namespace Go.Proofs.YtapjkbpfhmbfaaaGreatDoor
open Go.RowKit
set_option maxHeartbeats 400000 in
theorem specEnt (k t : ByteArray) (q d n : Int) (w : World) (hs : k.size ≤ maxLen) (ht : t.size ≤ maxLen) :
    Calls Tryz.prog 128 #[.agg #[.string k, .int .i64 q, .int .i64 d, .string t, .int .i64 n]] w fun e w' => e = .returned (.bool (entB k q d t n)) ∧ Below w.heap.size w w' := by
  have ht' := ht
  unfold maxLen at ht'
  cases hk : keyB k with
  | false =>
    go_enter Tryz.func128, Tryz.ntmps128
    go_wp2_with (first | (go_at_call 184; refine (specKey _ _ hs).mono ?_; rintro e w' ⟨rfl, rfl⟩) | go_in)
    go_ret
    exact ⟨ret_bool (entB_key hk).symm, (Below.refl _ _).alloc (Nat.le_refl _) _⟩
  | true =>
    by_cases h1 : q < 1
    · go_enter Tryz.func128, Tryz.ntmps128
      go_wp2_with (first | (go_at_call 184; refine (specKey _ _ hs).mono ?_; rintro e w' ⟨rfl, rfl⟩) | go_in)
      go_ret
      exact ⟨ret_bool (entB_q1 h1).symm, (Below.refl _ _).alloc (Nat.le_refl _) _⟩
    by_cases h2 : 100000 < q
    · go_enter Tryz.func128, Tryz.ntmps128
      go_wp2_with (first | (go_at_call 184; refine (specKey _ _ hs).mono ?_; rintro e w' ⟨rfl, rfl⟩) | go_in)
      go_ret
      exact ⟨ret_bool (entB_q2 h2).symm, (Below.refl _ _).alloc (Nat.le_refl _) _⟩
    by_cases h3 : n < -1000000
    · go_enter Tryz.func128, Tryz.ntmps128
      go_wp2_with (first | (go_at_call 184; refine (specKey _ _ hs).mono ?_; rintro e w' ⟨rfl, rfl⟩) | go_in)
      go_ret
      exact ⟨ret_bool (entB_n1 h3).symm, (Below.refl _ _).alloc (Nat.le_refl _) _⟩
    by_cases h4 : 1000000 < n
    · go_enter Tryz.func128, Tryz.ntmps128
      go_wp2_with (first | (go_at_call 184; refine (specKey _ _ hs).mono ?_; rintro e w' ⟨rfl, rfl⟩) | go_in)
      go_ret
      exact ⟨ret_bool (entB_n2 h4).symm, (Below.refl _ _).alloc (Nat.le_refl _) _⟩
    by_cases h5 : 60 < t.size
    · go_enter Tryz.func128, Tryz.ntmps128
      go_wp2_with (first | (go_at_call 184; refine (specKey _ _ hs).mono ?_; rintro e w' ⟨rfl, rfl⟩) | go_in)
      go_ret
      exact ⟨ret_bool (entB_t h5).symm, (Below.refl _ _).alloc (Nat.le_refl _) _⟩
    by_cases d1 : d = 1
    · subst d1
      go_enter Tryz.func128, Tryz.ntmps128
      go_wp2_with (first | (go_at_call 184; refine (specKey _ _ hs).mono ?_; rintro e w' ⟨rfl, rfl⟩) | go_in)
      go_ret
      refine ⟨ret_bool ?_, (Below.refl _ _).alloc (Nat.le_refl _) _⟩
      rw [entB_rest hk (by omega) (by omega) (by omega) (by omega) (by omega)]
      exact kindB_1.symm
    by_cases d2 : d = 2
    · subst d2
      by_cases t0 : t = ByteArray.empty
      · subst t0
        by_cases n0 : n = 0
        · subst n0
          go_enter Tryz.func128, Tryz.ntmps128
          go_wp2_with (first | (go_at_call 184; refine (specKey _ _ hs).mono ?_; rintro e w' ⟨rfl, rfl⟩) | go_in)
          go_ret
          refine ⟨ret_bool ?_, (Below.refl _ _).alloc (Nat.le_refl _) _⟩
          rw [entB_rest hk (by omega) (by omega) (by omega) (by omega) (by omega)]
          rw [kindB_2]; rfl
        · have n1 : (n == 0) = false := by simpa using n0
          go_enter Tryz.func128, Tryz.ntmps128
          go_wp2_with (first | (go_at_call 184; refine (specKey _ _ hs).mono ?_; rintro e w' ⟨rfl, rfl⟩) | go_in)
          go_ret
          refine ⟨ret_bool ?_, (Below.refl _ _).alloc (Nat.le_refl _) _⟩
          rw [entB_rest hk (by omega) (by omega) (by omega) (by omega) (by omega)]
          rw [kindB_2]; simp [n0]
      · have t1 := size_pos_of_ne t0
        have t2 := toList_ne t0
        go_enter Tryz.func128, Tryz.ntmps128
        go_wp2_with (first | (go_at_call 184; refine (specKey _ _ hs).mono ?_; rintro e w' ⟨rfl, rfl⟩) | go_in)
        go_ret
        refine ⟨ret_bool ?_, (Below.refl _ _).alloc (Nat.le_refl _) _⟩
        rw [entB_rest hk (by omega) (by omega) (by omega) (by omega) (by omega)]
        rw [kindB_2]; simp [t1]
    by_cases d3 : d = 3
    · subst d3
      by_cases t0 : t = ByteArray.empty
      · subst t0
        go_enter Tryz.func128, Tryz.ntmps128
        go_wp2_with (first | (go_at_call 184; refine (specKey _ _ hs).mono ?_; rintro e w' ⟨rfl, rfl⟩) | go_in)
        go_ret
        refine ⟨ret_bool ?_, (Below.refl _ _).alloc (Nat.le_refl _) _⟩
        rw [entB_rest hk (by omega) (by omega) (by omega) (by omega) (by omega)]
        rw [kindB_3]; rfl
      · have t1 := size_pos_of_ne t0
        have t2 := toList_ne t0
        go_enter Tryz.func128, Tryz.ntmps128
        go_wp2_with (first | (go_at_call 184; refine (specKey _ _ hs).mono ?_; rintro e w' ⟨rfl, rfl⟩) | go_in)
        go_ret
        refine ⟨ret_bool ?_, (Below.refl _ _).alloc (Nat.le_refl _) _⟩
        rw [entB_rest hk (by omega) (by omega) (by omega) (by omega) (by omega)]
        rw [kindB_3]; simp [t1, t2]
    have e1 : (d == 1) = false := by simpa using d1
    have e2 : (d == 2) = false := by simpa using d2
    have e3 : (d == 3) = false := by simpa using d3
    go_enter Tryz.func128, Tryz.ntmps128
    go_wp2_with (first | (go_at_call 184; refine (specKey _ _ hs).mono ?_; rintro e w' ⟨rfl, rfl⟩) | go_in)
    go_ret
    refine ⟨ret_bool ?_, (Below.refl _ _).alloc (Nat.le_refl _) _⟩
    rw [entB_rest hk (by omega) (by omega) (by omega) (by omega) (by omega)]
    exact (kindB_0 d1 d2 d3).symm
end Go.Proofs.YtapjkbpfhmbfaaaGreatDoor

namespace Go.Proofs.YtapjkbpfhmbfaaaGreatDoor
open Go.RowKit
set_option maxHeartbeats 400000 in
theorem kindOf_putKind (k t : ByteArray) (q n : Int) (w : World) :
    Calls Tryz.prog 210 #[.agg #[.string k, .int .i64 q, .int .i64 1, .string t, .int .i64 n]] w fun e w' => e = .returned (.iface 275 (.agg #[])) ∧ Below w.heap.size w w' := by
  go_enter Tryz.func210, Tryz.ntmps210
  go_wp2
  go_ret
  exact ⟨rfl, (Below.refl _ _).alloc (Nat.le_refl _) _⟩
set_option maxHeartbeats 400000 in
theorem kindOf_delKind (k t : ByteArray) (q n : Int) (w : World) :
    Calls Tryz.prog 210 #[.agg #[.string k, .int .i64 q, .int .i64 2, .string t, .int .i64 n]] w fun e w' => e = .returned (.iface 276 (.agg #[])) ∧ Below w.heap.size w w' := by
  go_enter Tryz.func210, Tryz.ntmps210
  go_wp2
  go_ret
  exact ⟨rfl, (Below.refl _ _).alloc (Nat.le_refl _) _⟩
set_option maxHeartbeats 400000 in
theorem kindOf_addKind (k t : ByteArray) (q n : Int) (w : World) :
    Calls Tryz.prog 210 #[.agg #[.string k, .int .i64 q, .int .i64 3, .string t, .int .i64 n]] w fun e w' => e = .returned (.iface 277 (.agg #[])) ∧ Below w.heap.size w w' := by
  go_enter Tryz.func210, Tryz.ntmps210
  go_wp2
  go_ret
  exact ⟨rfl, (Below.refl _ _).alloc (Nat.le_refl _) _⟩
set_option maxHeartbeats 400000 in
theorem kindOf_noKind (k t : ByteArray) (q d n : Int) (w : World) (d1 : ¬ d = 1) (d2 : ¬ d = 2) (d3 : ¬ d = 3) :
    Calls Tryz.prog 210 #[.agg #[.string k, .int .i64 q, .int .i64 d, .string t, .int .i64 n]] w fun e w' => e = .returned (.iface 278 (.agg #[])) ∧ Below w.heap.size w w' := by
  have e1 : (d == 1) = false := by simpa using d1
  have e2 : (d == 2) = false := by simpa using d2
  have e3 : (d == 3) = false := by simpa using d3
  go_enter Tryz.func210, Tryz.ntmps210
  go_wp2
  go_ret
  exact ⟨rfl, (Below.refl _ _).alloc (Nat.le_refl _) _⟩
set_option maxHeartbeats 400000 in
theorem fits_putKind (k t : ByteArray) (q n : Int) (w : World) :
    Calls Tryz.prog 359 #[.agg #[], .agg #[.string k, .int .i64 q, .int .i64 1, .string t, .int .i64 n]] w fun e w' => e = .returned (.bool (kindB 1 t n)) ∧ Below w.heap.size w w' := by
  go_enter Tryz.func359, Tryz.ntmps359
  go_wp2
  go_ret
  exact ⟨ret_bool (kindB_1 (t := t) (n := n)).symm, ((Below.refl _ _).alloc (Nat.le_refl _) _).alloc (by simp) _⟩
set_option maxHeartbeats 400000 in
theorem fits_delKind (k t : ByteArray) (q n : Int) (w : World) :
    Calls Tryz.prog 361 #[.agg #[], .agg #[.string k, .int .i64 q, .int .i64 2, .string t, .int .i64 n]] w fun e w' => e = .returned (.bool (kindB 2 t n)) ∧ Below w.heap.size w w' := by
  by_cases t0 : t = ByteArray.empty
  · subst t0
    by_cases n0 : n = 0
    · subst n0
      go_enter Tryz.func361, Tryz.ntmps361
      go_wp2
      all_goals
        go_ret
        exact ⟨ret_bool (by rw [kindB_2]; rfl), ((Below.refl _ _).alloc (Nat.le_refl _) _).alloc (by simp) _⟩
    · have n1 : (n == 0) = false := by simpa using n0
      go_enter Tryz.func361, Tryz.ntmps361
      go_wp2
      all_goals
        go_ret
        exact ⟨ret_bool (by rw [kindB_2]; simp [n0]), ((Below.refl _ _).alloc (Nat.le_refl _) _).alloc (by simp) _⟩
  · have t1 := size_pos_of_ne t0
    have t2 := toList_ne t0
    go_enter Tryz.func361, Tryz.ntmps361
    go_wp2
    all_goals
      go_ret
      exact ⟨ret_bool (by rw [kindB_2]; simp [t1]), ((Below.refl _ _).alloc (Nat.le_refl _) _).alloc (by simp) _⟩
set_option maxHeartbeats 400000 in
theorem fits_addKind (k t : ByteArray) (q n : Int) (w : World) :
    Calls Tryz.prog 363 #[.agg #[], .agg #[.string k, .int .i64 q, .int .i64 3, .string t, .int .i64 n]] w fun e w' => e = .returned (.bool (kindB 3 t n)) ∧ Below w.heap.size w w' := by
  by_cases t0 : t = ByteArray.empty
  · subst t0
    go_enter Tryz.func363, Tryz.ntmps363
    go_wp2
    all_goals
      go_ret
      exact ⟨ret_bool (by rw [kindB_3]; rfl), ((Below.refl _ _).alloc (Nat.le_refl _) _).alloc (by simp) _⟩
  · have t1 := size_pos_of_ne t0
    have t2 := toList_ne t0
    go_enter Tryz.func363, Tryz.ntmps363
    go_wp2
    all_goals
      go_ret
      exact ⟨ret_bool (by rw [kindB_3]; simp [t1, t2]), ((Below.refl _ _).alloc (Nat.le_refl _) _).alloc (by simp) _⟩
set_option maxHeartbeats 400000 in
theorem fits_noKind (k t : ByteArray) (q d n : Int) (w : World) (d1 : ¬ d = 1) (d2 : ¬ d = 2) (d3 : ¬ d = 3) :
    Calls Tryz.prog 365 #[.agg #[], .agg #[.string k, .int .i64 q, .int .i64 d, .string t, .int .i64 n]] w fun e w' => e = .returned (.bool (kindB d t n)) ∧ Below w.heap.size w w' := by
  go_enter Tryz.func365, Tryz.ntmps365
  go_wp2
  go_ret
  exact ⟨ret_bool (kindB_0 d1 d2 d3).symm, ((Below.refl _ _).alloc (Nat.le_refl _) _).alloc (by simp) _⟩
end Go.Proofs.YtapjkbpfhmbfaaaGreatDoor

namespace Go.Proofs.YtapjkbpfhmbfaaaGreatDoor
open Go.RowKit
set_option maxRecDepth 100000
set_option maxHeartbeats 2000000
attribute [local go_sem] Oper.semAt_some
theorem below_drewN {B : Nat} {w w' : World} (h : Below B w w') (n : Nat) : Below B w (w'.drewN n) := h.trans ⟨rfl, rfl, rfl, Nat.le_refl _, fun _ _ => rfl⟩
theorem implEnt_key (k t : ByteArray) (q d n : Int) (w : World) (hs : k.size ≤ maxLen) (hk : keyB k = false) :
    Calls Tryz.prog 165 #[.agg #[.string k, .int .i64 q, .int .i64 d, .string t, .int .i64 n]] w fun e w' => e = .returned (.bool (entB k q d t n)) ∧ Below w.heap.size w w' := by
  go_enter Tryz.func165, Tryz.ntmps165
  go_wp2_with fail
  go_quiet (first | (go_at_call 209; refine Calls.quiet_of_same (v := .bool false) ((implKey _ _ hs).mono (fun e w' h => by rw [hk] at h; exact h))))
  go_wp2
  go_ret
  exact ⟨ret_bool (entB_key hk).symm, below_drewN ((Below.refl _ _).alloc (Nat.le_refl _) _) _⟩
theorem implEnt_q1 (k t : ByteArray) (q d n : Int) (w : World) (hs : k.size ≤ maxLen) (hk : keyB k = true) (h1 : q < 1) :
    Calls Tryz.prog 165 #[.agg #[.string k, .int .i64 q, .int .i64 d, .string t, .int .i64 n]] w fun e w' => e = .returned (.bool (entB k q d t n)) ∧ Below w.heap.size w w' := by
  have g : decide (1 ≤ q) = false := decide_eq_false (by omega)
  go_enter Tryz.func165, Tryz.ntmps165
  go_wp2_with fail
  go_quiet (first | (go_at_call 209; refine Calls.quiet_of_same (v := .bool true) ((implKey _ _ hs).mono (fun e w' h => by rw [hk] at h; exact h))))
  go_wp2
  go_ret
  exact ⟨ret_bool (entB_q1 h1).symm, below_drewN ((Below.refl _ _).alloc (Nat.le_refl _) _) _⟩
theorem implEnt_q2 (k t : ByteArray) (q d n : Int) (w : World) (hs : k.size ≤ maxLen) (hk : keyB k = true) (h1 : 1 ≤ q) (h2 : 100000 < q) :
    Calls Tryz.prog 165 #[.agg #[.string k, .int .i64 q, .int .i64 d, .string t, .int .i64 n]] w fun e w' => e = .returned (.bool (entB k q d t n)) ∧ Below w.heap.size w w' := by
  have g : decide (q ≤ 100000) = false := decide_eq_false (by omega)
  go_enter Tryz.func165, Tryz.ntmps165
  go_wp2_with fail
  go_quiet (first | (go_at_call 209; refine Calls.quiet_of_same (v := .bool true) ((implKey _ _ hs).mono (fun e w' h => by rw [hk] at h; exact h))))
  go_wp2
  go_ret
  exact ⟨ret_bool (entB_q2 h2).symm, below_drewN ((Below.refl _ _).alloc (Nat.le_refl _) _) _⟩
theorem implEnt_n1 (k t : ByteArray) (q d n : Int) (w : World) (hs : k.size ≤ maxLen) (hk : keyB k = true) (h1 : 1 ≤ q) (h2 : q ≤ 100000) (h3 : n < -1000000) :
    Calls Tryz.prog 165 #[.agg #[.string k, .int .i64 q, .int .i64 d, .string t, .int .i64 n]] w fun e w' => e = .returned (.bool (entB k q d t n)) ∧ Below w.heap.size w w' := by
  have g : decide (-1000000 ≤ n) = false := decide_eq_false (by omega)
  go_enter Tryz.func165, Tryz.ntmps165
  go_wp2_with fail
  go_quiet (first | (go_at_call 209; refine Calls.quiet_of_same (v := .bool true) ((implKey _ _ hs).mono (fun e w' h => by rw [hk] at h; exact h))))
  go_wp2
  go_ret
  exact ⟨ret_bool (entB_n1 h3).symm, below_drewN ((Below.refl _ _).alloc (Nat.le_refl _) _) _⟩
theorem implEnt_n2 (k t : ByteArray) (q d n : Int) (w : World) (hs : k.size ≤ maxLen) (hk : keyB k = true) (h1 : 1 ≤ q) (h2 : q ≤ 100000) (h3 : -1000000 ≤ n) (h4 : 1000000 < n) :
    Calls Tryz.prog 165 #[.agg #[.string k, .int .i64 q, .int .i64 d, .string t, .int .i64 n]] w fun e w' => e = .returned (.bool (entB k q d t n)) ∧ Below w.heap.size w w' := by
  have g : decide (n ≤ 1000000) = false := decide_eq_false (by omega)
  go_enter Tryz.func165, Tryz.ntmps165
  go_wp2_with fail
  go_quiet (first | (go_at_call 209; refine Calls.quiet_of_same (v := .bool true) ((implKey _ _ hs).mono (fun e w' h => by rw [hk] at h; exact h))))
  go_wp2
  go_ret
  exact ⟨ret_bool (entB_n2 h4).symm, below_drewN ((Below.refl _ _).alloc (Nat.le_refl _) _) _⟩
theorem implEnt_t (k t : ByteArray) (q d n : Int) (w : World) (hs : k.size ≤ maxLen) (hk : keyB k = true) (h1 : 1 ≤ q) (h2 : q ≤ 100000) (h3 : -1000000 ≤ n) (h4 : n ≤ 1000000) (h5 : 60 < t.size) :
    Calls Tryz.prog 165 #[.agg #[.string k, .int .i64 q, .int .i64 d, .string t, .int .i64 n]] w fun e w' => e = .returned (.bool (entB k q d t n)) ∧ Below w.heap.size w w' := by
  have g : decide ((t.size : Int) ≤ 60) = false := decide_eq_false (by omega)
  go_enter Tryz.func165, Tryz.ntmps165
  go_wp2_with fail
  go_quiet (first | (go_at_call 209; refine Calls.quiet_of_same (v := .bool true) ((implKey _ _ hs).mono (fun e w' h => by rw [hk] at h; exact h))))
  go_wp2
  go_ret
  exact ⟨ret_bool (entB_t h5).symm, below_drewN ((Below.refl _ _).alloc (Nat.le_refl _) _) _⟩
theorem implEnt_putKind (k t : ByteArray) (q n : Int) (w : World) (hs : k.size ≤ maxLen) (ht : t.size ≤ 60) (hk : keyB k = true) (h1 : 1 ≤ q) (h2 : q ≤ 100000) (h3 : -1000000 ≤ n) (h4 : n ≤ 1000000) :
    Calls Tryz.prog 165 #[.agg #[.string k, .int .i64 q, .int .i64 1, .string t, .int .i64 n]] w fun e w' => e = .returned (.bool (entB k q 1 t n)) ∧ Below w.heap.size w w' := by
  have HR : Hid (entB k q 1 t n = kindB 1 t n) := entB_rest hk h1 h2 h3 h4 ht
  have ht' : (t.size : Int) ≤ 60 := by omega
  clear ht
  go_enter Tryz.func165, Tryz.ntmps165
  go_wp2_with fail
  obtain ⟨X, hX⟩ : ∃ X, X = w.heap.size := ⟨_, rfl⟩
  obtain ⟨W, hW⟩ : ∃ W, W = w.alloc (.cells #[.string k, .int .i64 q, .int .i64 1, .string t, .int .i64 n] 87) := ⟨_, rfl⟩
  have x0 : W.cell? ⟨X, 0, none⟩ = some (.string k) := by rw [hW, hX]; simp
  have x1 : W.cell? ⟨X, 1, none⟩ = some (.int .i64 q) := by rw [hW, hX]; simp
  have x2 : W.cell? ⟨X, 2, none⟩ = some (.int .i64 1) := by rw [hW, hX]; simp
  have x3 : W.cell? ⟨X, 3, none⟩ = some (.string t) := by rw [hW, hX]; simp
  have x4 : W.cell? ⟨X, 4, none⟩ = some (.int .i64 n) := by rw [hW, hX]; simp
  have kW : Below w.heap.size w W := by rw [hW]; exact (Below.refl _ _).alloc (Nat.le_refl _) _
  rw [← hW, ← hX]
  clear hW hX
  have HKW : Hid (Below w.heap.size w W) := kW
  clear kW
  have k0 : Below W.heap.size W W.drew := (Below.refl _ W).drew
  have HMK : Hid (∀ w', Below W.heap.size W w' → (w'.cell? ⟨X, 0, none⟩ = some (.string k) ∧ w'.cell? ⟨X, 1, none⟩ = some (.int .i64 q) ∧ w'.cell? ⟨X, 2, none⟩ = some (.int .i64 1) ∧ w'.cell? ⟨X, 3, none⟩ = some (.string t) ∧ w'.cell? ⟨X, 4, none⟩ = some (.int .i64 n) ∧ X < w'.heap.size ∧ Below W.heap.size W w')) := fun w' k => ⟨cell_later k x0, cell_later k x1, cell_later k x2, cell_later k x3, cell_later k x4, World.block_lt_of_cell? _ _ (cell_later k x0), k⟩
  have hm : ∀ w : World, (method 468 275 (.agg #[]) "loop.example/comptoir/impl.fits").run Tryz.prog w = .ok (359, .agg #[]) w := fun _ => by kernel_rfl
  go_region_held3 (fun w' => w'.cell? ⟨X, 0, none⟩ = some (.string k) ∧ w'.cell? ⟨X, 1, none⟩ = some (.int .i64 q) ∧ w'.cell? ⟨X, 2, none⟩ = some (.int .i64 1) ∧ w'.cell? ⟨X, 3, none⟩ = some (.string t) ∧ w'.cell? ⟨X, 4, none⟩ = some (.int .i64 n) ∧ X < w'.heap.size ∧ Below W.heap.size W w') (first | exact HMK.out _ k2 | exact HMK.out _ k1 | exact HMK.out _ k0) (first
    | (go_at_call 209; refine (implKey _ _ hs).mono ?_; rw [hk]; rintro e w' ⟨rfl, rfl⟩)
    | (go_at_call 210; refine (kindOf_putKind _ _ _ _ _).mono ?_; rintro e w1 ⟨rfl, hb1⟩; have k1 : Below W.heap.size W w1 := k0.trans (hb1.mono k0.size))
    | (go_at_call 359; refine (fits_putKind _ _ _ _ _).mono ?_; rintro e w2 ⟨rfl, hb2⟩; have k2 : Below W.heap.size W w2 := k1.trans (hb2.mono k1.size)))
  go_wp2
  go_ret
  exact ⟨ret_bool HR.out.symm, HKW.out.trans (k2.mono HKW.out.size)⟩
theorem implEnt_delKind (k t : ByteArray) (q n : Int) (w : World) (hs : k.size ≤ maxLen) (ht : t.size ≤ 60) (hk : keyB k = true) (h1 : 1 ≤ q) (h2 : q ≤ 100000) (h3 : -1000000 ≤ n) (h4 : n ≤ 1000000) :
    Calls Tryz.prog 165 #[.agg #[.string k, .int .i64 q, .int .i64 2, .string t, .int .i64 n]] w fun e w' => e = .returned (.bool (entB k q 2 t n)) ∧ Below w.heap.size w w' := by
  have HR : Hid (entB k q 2 t n = kindB 2 t n) := entB_rest hk h1 h2 h3 h4 ht
  have ht' : (t.size : Int) ≤ 60 := by omega
  clear ht
  go_enter Tryz.func165, Tryz.ntmps165
  go_wp2_with fail
  obtain ⟨X, hX⟩ : ∃ X, X = w.heap.size := ⟨_, rfl⟩
  obtain ⟨W, hW⟩ : ∃ W, W = w.alloc (.cells #[.string k, .int .i64 q, .int .i64 2, .string t, .int .i64 n] 87) := ⟨_, rfl⟩
  have x0 : W.cell? ⟨X, 0, none⟩ = some (.string k) := by rw [hW, hX]; simp
  have x1 : W.cell? ⟨X, 1, none⟩ = some (.int .i64 q) := by rw [hW, hX]; simp
  have x2 : W.cell? ⟨X, 2, none⟩ = some (.int .i64 2) := by rw [hW, hX]; simp
  have x3 : W.cell? ⟨X, 3, none⟩ = some (.string t) := by rw [hW, hX]; simp
  have x4 : W.cell? ⟨X, 4, none⟩ = some (.int .i64 n) := by rw [hW, hX]; simp
  have kW : Below w.heap.size w W := by rw [hW]; exact (Below.refl _ _).alloc (Nat.le_refl _) _
  rw [← hW, ← hX]
  clear hW hX
  have HKW : Hid (Below w.heap.size w W) := kW
  clear kW
  have k0 : Below W.heap.size W W.drew := (Below.refl _ W).drew
  have HMK : Hid (∀ w', Below W.heap.size W w' → (w'.cell? ⟨X, 0, none⟩ = some (.string k) ∧ w'.cell? ⟨X, 1, none⟩ = some (.int .i64 q) ∧ w'.cell? ⟨X, 2, none⟩ = some (.int .i64 2) ∧ w'.cell? ⟨X, 3, none⟩ = some (.string t) ∧ w'.cell? ⟨X, 4, none⟩ = some (.int .i64 n) ∧ X < w'.heap.size ∧ Below W.heap.size W w')) := fun w' k => ⟨cell_later k x0, cell_later k x1, cell_later k x2, cell_later k x3, cell_later k x4, World.block_lt_of_cell? _ _ (cell_later k x0), k⟩
  have hm : ∀ w : World, (method 468 276 (.agg #[]) "loop.example/comptoir/impl.fits").run Tryz.prog w = .ok (361, .agg #[]) w := fun _ => by kernel_rfl
  go_region_held3 (fun w' => w'.cell? ⟨X, 0, none⟩ = some (.string k) ∧ w'.cell? ⟨X, 1, none⟩ = some (.int .i64 q) ∧ w'.cell? ⟨X, 2, none⟩ = some (.int .i64 2) ∧ w'.cell? ⟨X, 3, none⟩ = some (.string t) ∧ w'.cell? ⟨X, 4, none⟩ = some (.int .i64 n) ∧ X < w'.heap.size ∧ Below W.heap.size W w') (first | exact HMK.out _ k2 | exact HMK.out _ k1 | exact HMK.out _ k0) (first
    | (go_at_call 209; refine (implKey _ _ hs).mono ?_; rw [hk]; rintro e w' ⟨rfl, rfl⟩)
    | (go_at_call 210; refine (kindOf_delKind _ _ _ _ _).mono ?_; rintro e w1 ⟨rfl, hb1⟩; have k1 : Below W.heap.size W w1 := k0.trans (hb1.mono k0.size))
    | (go_at_call 361; refine (fits_delKind _ _ _ _ _).mono ?_; rintro e w2 ⟨rfl, hb2⟩; have k2 : Below W.heap.size W w2 := k1.trans (hb2.mono k1.size)))
  go_wp2
  go_ret
  exact ⟨ret_bool HR.out.symm, HKW.out.trans (k2.mono HKW.out.size)⟩
theorem implEnt_addKind (k t : ByteArray) (q n : Int) (w : World) (hs : k.size ≤ maxLen) (ht : t.size ≤ 60) (hk : keyB k = true) (h1 : 1 ≤ q) (h2 : q ≤ 100000) (h3 : -1000000 ≤ n) (h4 : n ≤ 1000000) :
    Calls Tryz.prog 165 #[.agg #[.string k, .int .i64 q, .int .i64 3, .string t, .int .i64 n]] w fun e w' => e = .returned (.bool (entB k q 3 t n)) ∧ Below w.heap.size w w' := by
  have HR : Hid (entB k q 3 t n = kindB 3 t n) := entB_rest hk h1 h2 h3 h4 ht
  have ht' : (t.size : Int) ≤ 60 := by omega
  clear ht
  go_enter Tryz.func165, Tryz.ntmps165
  go_wp2_with fail
  obtain ⟨X, hX⟩ : ∃ X, X = w.heap.size := ⟨_, rfl⟩
  obtain ⟨W, hW⟩ : ∃ W, W = w.alloc (.cells #[.string k, .int .i64 q, .int .i64 3, .string t, .int .i64 n] 87) := ⟨_, rfl⟩
  have x0 : W.cell? ⟨X, 0, none⟩ = some (.string k) := by rw [hW, hX]; simp
  have x1 : W.cell? ⟨X, 1, none⟩ = some (.int .i64 q) := by rw [hW, hX]; simp
  have x2 : W.cell? ⟨X, 2, none⟩ = some (.int .i64 3) := by rw [hW, hX]; simp
  have x3 : W.cell? ⟨X, 3, none⟩ = some (.string t) := by rw [hW, hX]; simp
  have x4 : W.cell? ⟨X, 4, none⟩ = some (.int .i64 n) := by rw [hW, hX]; simp
  have kW : Below w.heap.size w W := by rw [hW]; exact (Below.refl _ _).alloc (Nat.le_refl _) _
  rw [← hW, ← hX]
  clear hW hX
  have HKW : Hid (Below w.heap.size w W) := kW
  clear kW
  have k0 : Below W.heap.size W W.drew := (Below.refl _ W).drew
  have HMK : Hid (∀ w', Below W.heap.size W w' → (w'.cell? ⟨X, 0, none⟩ = some (.string k) ∧ w'.cell? ⟨X, 1, none⟩ = some (.int .i64 q) ∧ w'.cell? ⟨X, 2, none⟩ = some (.int .i64 3) ∧ w'.cell? ⟨X, 3, none⟩ = some (.string t) ∧ w'.cell? ⟨X, 4, none⟩ = some (.int .i64 n) ∧ X < w'.heap.size ∧ Below W.heap.size W w')) := fun w' k => ⟨cell_later k x0, cell_later k x1, cell_later k x2, cell_later k x3, cell_later k x4, World.block_lt_of_cell? _ _ (cell_later k x0), k⟩
  have hm : ∀ w : World, (method 468 277 (.agg #[]) "loop.example/comptoir/impl.fits").run Tryz.prog w = .ok (363, .agg #[]) w := fun _ => by kernel_rfl
  go_region_held3 (fun w' => w'.cell? ⟨X, 0, none⟩ = some (.string k) ∧ w'.cell? ⟨X, 1, none⟩ = some (.int .i64 q) ∧ w'.cell? ⟨X, 2, none⟩ = some (.int .i64 3) ∧ w'.cell? ⟨X, 3, none⟩ = some (.string t) ∧ w'.cell? ⟨X, 4, none⟩ = some (.int .i64 n) ∧ X < w'.heap.size ∧ Below W.heap.size W w') (first | exact HMK.out _ k2 | exact HMK.out _ k1 | exact HMK.out _ k0) (first
    | (go_at_call 209; refine (implKey _ _ hs).mono ?_; rw [hk]; rintro e w' ⟨rfl, rfl⟩)
    | (go_at_call 210; refine (kindOf_addKind _ _ _ _ _).mono ?_; rintro e w1 ⟨rfl, hb1⟩; have k1 : Below W.heap.size W w1 := k0.trans (hb1.mono k0.size))
    | (go_at_call 363; refine (fits_addKind _ _ _ _ _).mono ?_; rintro e w2 ⟨rfl, hb2⟩; have k2 : Below W.heap.size W w2 := k1.trans (hb2.mono k1.size)))
  go_wp2
  go_ret
  exact ⟨ret_bool HR.out.symm, HKW.out.trans (k2.mono HKW.out.size)⟩
theorem implEnt_noKind (k t : ByteArray) (q d n : Int) (w : World) (hs : k.size ≤ maxLen) (ht : t.size ≤ 60) (hk : keyB k = true) (h1 : 1 ≤ q) (h2 : q ≤ 100000) (h3 : -1000000 ≤ n) (h4 : n ≤ 1000000) (d1 : ¬ d = 1) (d2 : ¬ d = 2) (d3 : ¬ d = 3) :
    Calls Tryz.prog 165 #[.agg #[.string k, .int .i64 q, .int .i64 d, .string t, .int .i64 n]] w fun e w' => e = .returned (.bool (entB k q d t n)) ∧ Below w.heap.size w w' := by
  have HR : Hid (entB k q d t n = kindB d t n) := entB_rest hk h1 h2 h3 h4 ht
  have ht' : (t.size : Int) ≤ 60 := by omega
  clear ht
  go_enter Tryz.func165, Tryz.ntmps165
  go_wp2_with fail
  obtain ⟨X, hX⟩ : ∃ X, X = w.heap.size := ⟨_, rfl⟩
  obtain ⟨W, hW⟩ : ∃ W, W = w.alloc (.cells #[.string k, .int .i64 q, .int .i64 d, .string t, .int .i64 n] 87) := ⟨_, rfl⟩
  have x0 : W.cell? ⟨X, 0, none⟩ = some (.string k) := by rw [hW, hX]; simp
  have x1 : W.cell? ⟨X, 1, none⟩ = some (.int .i64 q) := by rw [hW, hX]; simp
  have x2 : W.cell? ⟨X, 2, none⟩ = some (.int .i64 d) := by rw [hW, hX]; simp
  have x3 : W.cell? ⟨X, 3, none⟩ = some (.string t) := by rw [hW, hX]; simp
  have x4 : W.cell? ⟨X, 4, none⟩ = some (.int .i64 n) := by rw [hW, hX]; simp
  have kW : Below w.heap.size w W := by rw [hW]; exact (Below.refl _ _).alloc (Nat.le_refl _) _
  rw [← hW, ← hX]
  clear hW hX
  have HKW : Hid (Below w.heap.size w W) := kW
  clear kW
  have k0 : Below W.heap.size W W.drew := (Below.refl _ W).drew
  have HMK : Hid (∀ w', Below W.heap.size W w' → (w'.cell? ⟨X, 0, none⟩ = some (.string k) ∧ w'.cell? ⟨X, 1, none⟩ = some (.int .i64 q) ∧ w'.cell? ⟨X, 2, none⟩ = some (.int .i64 d) ∧ w'.cell? ⟨X, 3, none⟩ = some (.string t) ∧ w'.cell? ⟨X, 4, none⟩ = some (.int .i64 n) ∧ X < w'.heap.size ∧ Below W.heap.size W w')) := fun w' k => ⟨cell_later k x0, cell_later k x1, cell_later k x2, cell_later k x3, cell_later k x4, World.block_lt_of_cell? _ _ (cell_later k x0), k⟩
  have hm : ∀ w : World, (method 468 278 (.agg #[]) "loop.example/comptoir/impl.fits").run Tryz.prog w = .ok (365, .agg #[]) w := fun _ => by kernel_rfl
  go_region_held3 (fun w' => w'.cell? ⟨X, 0, none⟩ = some (.string k) ∧ w'.cell? ⟨X, 1, none⟩ = some (.int .i64 q) ∧ w'.cell? ⟨X, 2, none⟩ = some (.int .i64 d) ∧ w'.cell? ⟨X, 3, none⟩ = some (.string t) ∧ w'.cell? ⟨X, 4, none⟩ = some (.int .i64 n) ∧ X < w'.heap.size ∧ Below W.heap.size W w') (first | exact HMK.out _ k2 | exact HMK.out _ k1 | exact HMK.out _ k0) (first
    | (go_at_call 209; refine (implKey _ _ hs).mono ?_; rw [hk]; rintro e w' ⟨rfl, rfl⟩)
    | (go_at_call 210; refine (kindOf_noKind _ _ _ _ _ _ d1 d2 d3).mono ?_; rintro e w1 ⟨rfl, hb1⟩; have k1 : Below W.heap.size W w1 := k0.trans (hb1.mono k0.size))
    | (go_at_call 365; refine (fits_noKind _ _ _ _ _ _ d1 d2 d3).mono ?_; rintro e w2 ⟨rfl, hb2⟩; have k2 : Below W.heap.size W w2 := k1.trans (hb2.mono k1.size)))
  go_wp2
  go_ret
  exact ⟨ret_bool HR.out.symm, HKW.out.trans (k2.mono HKW.out.size)⟩
theorem implEnt (k t : ByteArray) (q d n : Int) (w : World) (hs : k.size ≤ maxLen) :
    Calls Tryz.prog 165 #[.agg #[.string k, .int .i64 q, .int .i64 d, .string t, .int .i64 n]] w fun e w' => e = .returned (.bool (entB k q d t n)) ∧ Below w.heap.size w w' := by
  cases hk : keyB k with
  | false => exact implEnt_key k t q d n w hs hk
  | true =>
    by_cases h1 : q < 1
    · exact implEnt_q1 k t q d n w hs hk h1
    by_cases h2 : 100000 < q
    · exact implEnt_q2 k t q d n w hs hk (by omega) h2
    by_cases h3 : n < -1000000
    · exact implEnt_n1 k t q d n w hs hk (by omega) (by omega) h3
    by_cases h4 : 1000000 < n
    · exact implEnt_n2 k t q d n w hs hk (by omega) (by omega) (by omega) h4
    by_cases h5 : 60 < t.size
    · exact implEnt_t k t q d n w hs hk (by omega) (by omega) (by omega) (by omega) h5
    by_cases d1 : d = 1
    · subst d1; exact implEnt_putKind k t q n w hs (by omega) hk (by omega) (by omega) (by omega) (by omega)
    by_cases d2 : d = 2
    · subst d2; exact implEnt_delKind k t q n w hs (by omega) hk (by omega) (by omega) (by omega) (by omega)
    by_cases d3 : d = 3
    · subst d3; exact implEnt_addKind k t q n w hs (by omega) hk (by omega) (by omega) (by omega) (by omega)
    exact implEnt_noKind k t q d n w hs (by omega) hk (by omega) (by omega) (by omega) (by omega) d1 d2 d3
end Go.Proofs.YtapjkbpfhmbfaaaGreatDoor
