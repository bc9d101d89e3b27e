/-
  Plain: when times that are kept are right, and when entries are within a time; no statement of the program stands here.
  What the program's and the document's KeyOk answer at every text, by walks of their Go text.
  What the document's EntryOk answers at every entry, by a walk of its Go text.
-/
import Derived.Test.YthhiahjafhkbbaaGreatBn03
import Derived.Test.YthhiahjafhkbbaaGreatBn01
import Derived.Test.YthhiahjafhkbbaaGreatProg
import Derived.Test.YthhiahjafhkbbaaGreatBn00
import Derived.WalkKit
import Derived.WalkSpells
import Derived.WalkLawsBesides
import Derived.Test.YthhiahjafhkbbaaGreatBn02
namespace Go.Proofs.YthhiahjafhkbbaaGreat
open Go.RowKit

/-- No entry is above a time. -/
def withinB (M : List EntD) (q : Int) : Bool := M.all (fun e => decide (e.2.1 ≤ q))
theorem within_snoc {M : List EntD} {q : Int} {k : Nat} {e : EntD} (h : withinB (M.take k) q = true) (hk : M[k]? = some e) (he : e.2.1 ≤ q) : withinB (M.take (k + 1)) q = true := by
  unfold withinB at h ⊢
  rw [List.take_add_one, hk]
  simp only [Option.toList, List.all_append, h, List.all_cons, List.all_nil, Bool.and_true, Bool.true_and]
  exact decide_eq_true he
theorem within_no {M : List EntD} {q : Int} {k : Nat} {e : EntD} (hk : M[k]? = some e) (he : ¬ e.2.1 ≤ q) : withinB M q = false := by
  unfold withinB
  rw [Bool.eq_false_iff]
  intro h
  rw [List.all_eq_true] at h
  exact he (of_decide_eq_true (h e (List.mem_of_getElem? hk)))

/-- Time number i is right: from 0 to q, and above the one ahead. -/
def snapAt (S : List Int) (q : Int) (i : Nat) : Bool :=
  match S[i]? with
  | none => true
  | some s => decide (0 ≤ s) && (decide (s ≤ q) && (match i with | 0 => true | j + 1 => match S[j]? with | none => true | some p => decide (p < s)))
def SnapsTo (S : List Int) (q : Int) (k : Nat) : Prop := ∀ j, j < k → snapAt S q j = true
/-- Times that are kept are right. -/
def snapsB (S : List Int) (q : Int) : Bool := decide (S.length ≤ 4) && (List.range S.length).all (snapAt S q)
theorem snaps_many {S : List Int} {q : Int} (h : 4 < S.length) : snapsB S q = false := by
  unfold snapsB
  rw [decide_eq_false (by omega)]
  rfl
theorem snaps_no {S : List Int} {q : Int} {k : Nat} (hk : k < S.length) (h : snapAt S q k = false) : snapsB S q = false := by
  unfold snapsB
  rw [Bool.and_eq_false_iff]
  right
  rw [Bool.eq_false_iff]
  intro h1
  rw [List.all_eq_true] at h1
  rw [h1 k (List.mem_range.2 hk)] at h
  cases h
theorem snaps_all {S : List Int} {q : Int} (h : SnapsTo S q S.length) : snapsB S q = decide (S.length ≤ 4) := by
  unfold snapsB
  have : (List.range S.length).all (snapAt S q) = true := by
    rw [List.all_eq_true]
    intro j hj
    exact h j (List.mem_range.1 hj)
  rw [this, Bool.and_true]
theorem snaps_snoc {S : List Int} {q : Int} {k : Nat} (h : SnapsTo S q k) (hk : snapAt S q k = true) : SnapsTo S q (k + 1) := by
  intro j hj
  by_cases e : j = k
  · subst e; exact hk
  · exact h j (by omega)
theorem snap_zero {S : List Int} {q s : Int} (h : S[0]? = some s) : snapAt S q 0 = (decide (0 ≤ s) && decide (s ≤ q)) := by
  unfold snapAt
  rw [h]
  simp
theorem snap_succ {S : List Int} {q s p : Int} {j : Nat} (h : S[j + 1]? = some s) (hp : S[j]? = some p) : snapAt S q (j + 1) = (decide (0 ≤ s) && (decide (s ≤ q) && decide (p < s))) := by
  unfold snapAt
  simp only [h, hp]
theorem snap_low {S : List Int} {q s : Int} {k : Nat} (h : S[k]? = some s) (hs : s < 0) : snapAt S q k = false := by
  unfold snapAt
  rw [h]
  simp only
  rw [decide_eq_false (by omega)]
  rfl
theorem snap_high {S : List Int} {q s : Int} {k : Nat} (h : S[k]? = some s) (hs : q < s) : snapAt S q k = false := by
  unfold snapAt
  rw [h]
  simp only
  rw [decide_eq_false (p := s ≤ q) (by omega)]
  simp
end Go.Proofs.YthhiahjafhkbbaaGreat

namespace Go.Proofs.YthhiahjafhkbbaaGreat
open Go.RowKit

set_option maxHeartbeats 400000 in
theorem specKey (s : ByteArray) (w : World) (hs : s.size ≤ maxLen) :
    Calls Tryz.prog 121 #[.string s] w fun e w' => e = .returned (.bool (keyB s)) ∧ w' = w := by
  unfold maxLen at hs
  go_enter Tryz.func121, Tryz.ntmps121
  go_wp2
  go_loop [3] (fun i => ∃ k : Nat, k ≤ s.size ∧ i = .int .i64 k ∧ (s.data.toList.take k).all keyC = true) (fun i => s.size - (intOf i).toNat)
  case atStart => exact ⟨0, Nat.zero_le _, rfl, rfl⟩
  case round =>
    obtain ⟨k, hk, rfl, hall⟩ := hrel
    have HA : Hid ((s.data.toList.take k).all keyC = true) := hall
    clear hall
    by_cases hlt : k < s.size
    · cases hb : keyC s[k] with
      | true =>
        have h3 := keyC_true hb
        have HB : Hid (keyC s[k] = true) := hb
        clear hb
        rcases h3 with ⟨h31, h32⟩ | ⟨h31, h32⟩
        · go_wp2
          go_round
          case rel => exact ⟨k + 1, by omega, by go_num, key_take_snoc s k hlt HA.out HB.out⟩
          case measure => simp [intOf]; omega
        · go_wp2
          go_round
          case rel => exact ⟨k + 1, by omega, by go_num, key_take_snoc s k hlt HA.out HB.out⟩
          case measure => simp [intOf]; omega
      | false =>
        have h3 := keyC_false hb
        have HB : Hid (keyC s[k] = false) := hb
        clear hb
        rcases h3 with h3 | ⟨h3, h4⟩ | h3
        · go_wp2
          go_ret
          exact ⟨ret_bool (key_false_of s k hlt HB.out).symm, rfl⟩
        · go_wp2
          go_ret
          exact ⟨ret_bool (key_false_of s k hlt HB.out).symm, rfl⟩
        · go_wp2
          go_ret
          exact ⟨ret_bool (key_false_of s k hlt HB.out).symm, rfl⟩
    · go_wp2
      all_goals
        go_ret
        refine ⟨ret_bool ?_, rfl⟩
        rw [keyB_of_all s k (by omega) HA.out]
        first | exact sz8_yes _ (by omega) | exact sz8_no _ (by omega)

set_option maxHeartbeats 400000 in
theorem isKey_yes (b : Int) (w : World) (h : (97 ≤ b ∧ b ≤ 122) ∨ (47 ≤ b ∧ b ≤ 57)) : Calls Tryz.prog 142 #[.int .u8 b] w fun e w' => e = .returned (.bool true) ∧ w' = w := by
  rcases h with ⟨h1, h2⟩ | ⟨h1, h2⟩
  · go_enter Tryz.func142, Tryz.ntmps142
    go_wp2
    all_goals
      go_ret
      exact ⟨rfl, rfl⟩
  · by_cases h3 : b = 47
    · subst h3
      go_enter Tryz.func142, Tryz.ntmps142
      go_wp2
      all_goals
        go_ret
        exact ⟨rfl, rfl⟩
    · have h4 : 48 ≤ b := by omega
      go_enter Tryz.func142, Tryz.ntmps142
      go_wp2
      all_goals
        go_ret
        exact ⟨rfl, rfl⟩

set_option maxHeartbeats 400000 in
theorem isKey_no (b : Int) (w : World) (h : b < 47 ∨ (57 < b ∧ b < 97) ∨ 122 < b) : Calls Tryz.prog 142 #[.int .u8 b] w fun e w' => e = .returned (.bool false) ∧ w' = w := by
  have hd : (b == 47) = false := by rw [beq_eq_false_iff_ne]; omega
  have hd' : ¬ b = 47 := by omega
  rcases h with h | ⟨h, h'⟩ | h
  · go_enter Tryz.func142, Tryz.ntmps142
    go_wp2
    all_goals
      go_ret
      exact ⟨ret_bool (by first | rfl | (simp; omega) | simp), rfl⟩
  · go_enter Tryz.func142, Tryz.ntmps142
    go_wp2
    all_goals
      go_ret
      exact ⟨ret_bool (by first | rfl | (simp; omega) | simp), rfl⟩
  · go_enter Tryz.func142, Tryz.ntmps142
    go_wp2
    all_goals
      go_ret
      exact ⟨ret_bool (by first | rfl | (simp; omega) | simp), rfl⟩

set_option maxHeartbeats 400000 in
theorem implKey (s : ByteArray) (w : World) (hs : s.size ≤ maxLen) :
    Calls Tryz.prog 114 #[.string s] w fun e w' => e = .returned (.bool (keyB s)) ∧ w' = w := by
  unfold maxLen at hs
  by_cases h1 : s.size < 1
  · go_enter Tryz.func114, Tryz.ntmps114
    go_wp2
    go_ret
    exact ⟨ret_bool (keyB_small s h1).symm, rfl⟩
  by_cases h4 : 8 < s.size
  · go_enter Tryz.func114, Tryz.ntmps114
    go_wp2
    go_ret
    exact ⟨ret_bool (keyB_big s h4).symm, rfl⟩
  go_enter Tryz.func114, Tryz.ntmps114
  go_wp2
  go_loop [14] (fun i => ∃ k : Nat, k ≤ s.size ∧ i = .int .i64 k ∧ (s.data.toList.take k).all keyC = true) (fun i => s.size - (intOf i).toNat)
  case atStart => exact ⟨0, Nat.zero_le _, rfl, rfl⟩
  case round =>
    obtain ⟨k, hk, rfl, hall⟩ := hrel
    have HA : Hid ((s.data.toList.take k).all keyC = true) := hall
    clear hall
    by_cases hlt : k < s.size
    · cases hb : keyC s[k] with
      | true =>
        have h3 := keyC_true hb
        have H3 : Hid ((97 ≤ ((s[k]).toNat : Int) ∧ ((s[k]).toNat : Int) ≤ 122) ∨ (47 ≤ ((s[k]).toNat : Int) ∧ ((s[k]).toNat : Int) ≤ 57)) := h3
        have HB : Hid (keyC s[k] = true) := hb
        clear hb h3
        go_wp2_with (go_at_call 142; refine (isKey_yes _ _ H3.out).mono ?_; rintro e w' ⟨rfl, rfl⟩)
        go_round
        case rel => exact ⟨k + 1, by omega, by go_num, key_take_snoc s k hlt HA.out HB.out⟩
        case measure => simp [intOf]; omega
      | false =>
        have h3 := keyC_false hb
        have H3 : Hid (((s[k]).toNat : Int) < 47 ∨ (57 < ((s[k]).toNat : Int) ∧ ((s[k]).toNat : Int) < 97) ∨ 122 < ((s[k]).toNat : Int)) := h3
        have HB : Hid (keyC s[k] = false) := hb
        clear hb h3
        go_wp2_with (go_at_call 142; refine (isKey_no _ _ H3.out).mono ?_; rintro e w' ⟨rfl, rfl⟩)
        go_ret
        exact ⟨ret_bool (key_false_of s k hlt HB.out).symm, rfl⟩
    · go_wp2
      go_ret
      exact ⟨ret_bool (keyB_all s (by omega) (by omega) k (by omega) HA.out).symm, rfl⟩

end Go.Proofs.YthhiahjafhkbbaaGreat

namespace Go.Proofs.YthhiahjafhkbbaaGreat
open Go.RowKit

set_option maxHeartbeats 400000 in
theorem specEnt (k t : ByteArray) (q d n : Int) (w : World) (hs : k.size ≤ maxLen) (ht : t.size ≤ maxLen) :
    Calls Tryz.prog 85 #[.agg #[.string k, .int .i64 q, .int .i64 d, .string t, .int .i64 n]] w fun e w' => e = .returned (.bool (entB k q d t n)) ∧ Below w.heap.size w w' := by
  have ht' := ht
  unfold maxLen at ht'
  cases hk : keyB k with
  | false =>
    go_enter Tryz.func85, Tryz.ntmps85
    go_wp2_with (first | (go_at_call 121; refine (specKey _ _ hs).mono ?_; rintro e w' ⟨rfl, rfl⟩) | go_in)
    go_ret
    exact ⟨ret_bool (entB_key hk).symm, (Below.refl _ _).alloc (Nat.le_refl _) _⟩
  | true =>
    by_cases h1 : q < 1
    · go_enter Tryz.func85, Tryz.ntmps85
      go_wp2_with (first | (go_at_call 121; refine (specKey _ _ hs).mono ?_; rintro e w' ⟨rfl, rfl⟩) | go_in)
      go_ret
      exact ⟨ret_bool (entB_q1 h1).symm, (Below.refl _ _).alloc (Nat.le_refl _) _⟩
    by_cases h2 : 100000 < q
    · go_enter Tryz.func85, Tryz.ntmps85
      go_wp2_with (first | (go_at_call 121; refine (specKey _ _ hs).mono ?_; rintro e w' ⟨rfl, rfl⟩) | go_in)
      go_ret
      exact ⟨ret_bool (entB_q2 h2).symm, (Below.refl _ _).alloc (Nat.le_refl _) _⟩
    by_cases h3 : n < -1000000
    · go_enter Tryz.func85, Tryz.ntmps85
      go_wp2_with (first | (go_at_call 121; refine (specKey _ _ hs).mono ?_; rintro e w' ⟨rfl, rfl⟩) | go_in)
      go_ret
      exact ⟨ret_bool (entB_n1 h3).symm, (Below.refl _ _).alloc (Nat.le_refl _) _⟩
    by_cases h4 : 1000000 < n
    · go_enter Tryz.func85, Tryz.ntmps85
      go_wp2_with (first | (go_at_call 121; refine (specKey _ _ hs).mono ?_; rintro e w' ⟨rfl, rfl⟩) | go_in)
      go_ret
      exact ⟨ret_bool (entB_n2 h4).symm, (Below.refl _ _).alloc (Nat.le_refl _) _⟩
    by_cases h5 : 60 < t.size
    · go_enter Tryz.func85, Tryz.ntmps85
      go_wp2_with (first | (go_at_call 121; refine (specKey _ _ hs).mono ?_; rintro e w' ⟨rfl, rfl⟩) | go_in)
      go_ret
      exact ⟨ret_bool (entB_t h5).symm, (Below.refl _ _).alloc (Nat.le_refl _) _⟩
    by_cases d1 : d = 1
    · subst d1
      go_enter Tryz.func85, Tryz.ntmps85
      go_wp2_with (first | (go_at_call 121; refine (specKey _ _ hs).mono ?_; rintro e w' ⟨rfl, rfl⟩) | go_in)
      go_ret
      refine ⟨ret_bool ?_, (Below.refl _ _).alloc (Nat.le_refl _) _⟩
      rw [entB_rest hk (by omega) (by omega) (by omega) (by omega) (by omega)]
      exact kindB_1.symm
    by_cases d2 : d = 2
    · subst d2
      by_cases t0 : t = ByteArray.empty
      · subst t0
        by_cases n0 : n = 0
        · subst n0
          go_enter Tryz.func85, Tryz.ntmps85
          go_wp2_with (first | (go_at_call 121; refine (specKey _ _ hs).mono ?_; rintro e w' ⟨rfl, rfl⟩) | go_in)
          go_ret
          refine ⟨ret_bool ?_, (Below.refl _ _).alloc (Nat.le_refl _) _⟩
          rw [entB_rest hk (by omega) (by omega) (by omega) (by omega) (by omega)]
          rw [kindB_2]; rfl
        · have n1 : (n == 0) = false := by simpa using n0
          go_enter Tryz.func85, Tryz.ntmps85
          go_wp2_with (first | (go_at_call 121; refine (specKey _ _ hs).mono ?_; rintro e w' ⟨rfl, rfl⟩) | go_in)
          go_ret
          refine ⟨ret_bool ?_, (Below.refl _ _).alloc (Nat.le_refl _) _⟩
          rw [entB_rest hk (by omega) (by omega) (by omega) (by omega) (by omega)]
          rw [kindB_2]; simp [n0]
      · have t1 := size_pos_of_ne t0
        have t2 := toList_ne t0
        go_enter Tryz.func85, Tryz.ntmps85
        go_wp2_with (first | (go_at_call 121; refine (specKey _ _ hs).mono ?_; rintro e w' ⟨rfl, rfl⟩) | go_in)
        go_ret
        refine ⟨ret_bool ?_, (Below.refl _ _).alloc (Nat.le_refl _) _⟩
        rw [entB_rest hk (by omega) (by omega) (by omega) (by omega) (by omega)]
        rw [kindB_2]; simp [t1]
    by_cases d3 : d = 3
    · subst d3
      by_cases t0 : t = ByteArray.empty
      · subst t0
        go_enter Tryz.func85, Tryz.ntmps85
        go_wp2_with (first | (go_at_call 121; refine (specKey _ _ hs).mono ?_; rintro e w' ⟨rfl, rfl⟩) | go_in)
        go_ret
        refine ⟨ret_bool ?_, (Below.refl _ _).alloc (Nat.le_refl _) _⟩
        rw [entB_rest hk (by omega) (by omega) (by omega) (by omega) (by omega)]
        rw [kindB_3]; rfl
      · have t1 := size_pos_of_ne t0
        have t2 := toList_ne t0
        go_enter Tryz.func85, Tryz.ntmps85
        go_wp2_with (first | (go_at_call 121; refine (specKey _ _ hs).mono ?_; rintro e w' ⟨rfl, rfl⟩) | go_in)
        go_ret
        refine ⟨ret_bool ?_, (Below.refl _ _).alloc (Nat.le_refl _) _⟩
        rw [entB_rest hk (by omega) (by omega) (by omega) (by omega) (by omega)]
        rw [kindB_3]; simp [t1, t2]
    have e1 : (d == 1) = false := by simpa using d1
    have e2 : (d == 2) = false := by simpa using d2
    have e3 : (d == 3) = false := by simpa using d3
    go_enter Tryz.func85, Tryz.ntmps85
    go_wp2_with (first | (go_at_call 121; refine (specKey _ _ hs).mono ?_; rintro e w' ⟨rfl, rfl⟩) | go_in)
    go_ret
    refine ⟨ret_bool ?_, (Below.refl _ _).alloc (Nat.le_refl _) _⟩
    rw [entB_rest hk (by omega) (by omega) (by omega) (by omega) (by omega)]
    exact (kindB_0 d1 d2 d3).symm

end Go.Proofs.YthhiahjafhkbbaaGreat
