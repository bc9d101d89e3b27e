/-
  What the program's and the document's KeyMask answer at every text, by walks of their Go text.
  What the program makes of an entry's kind: the four types behind its interface, what each says of an entry and does to a cell, by walks of their Go text.
  What the program's EntryOk answers at every entry, by walks of its Go text.
  What the document's l4Mask and the program's maskOf answer of every list of entries, by walks of their Go text.
-/
import Derived.Deep.RegionWith
import Derived.Deep.QuietTactic
import Derived.BigQuiet
import Derived.WalkSpells
import Derived.WalkLawsBesides
import Derived.Test.YtlmgojlffgkciaaGreatGa00
import Derived.Test.YtlmgojlffgkciaaGreatGa09
import Derived.Deep.RegionHeld3
import Derived.Deep.DeepCutAuto
import Derived.Deep.LoopGhost
namespace Go.Proofs.YtlmgojlffgkciaaGreat
open Go.RowKit
set_option maxHeartbeats 400000 in
theorem specBit (n : Nat) (w : World) (hn : n ≤ 16) :
    Calls Tryz.prog 199 #[.int .i64 n] w fun e w' => e = .returned (.int .i64 ((2 ^ n : Nat) : Int)) ∧ w' = w := by
  go_enter Tryz.func199, Tryz.ntmps199
  go_wp2
  go_loop [3, 4] (fun o i => ∃ k p : Nat, k ≤ n ∧ i = .int .i64 k ∧ o = .int .i64 p ∧ p = 2 ^ k) (fun _ i => n - (intOf i).toNat)
  case atStart => exact ⟨0, 1, Nat.zero_le _, rfl, rfl, rfl⟩
  case round =>
    obtain ⟨k, p, hk, rfl, rfl, hp⟩ := hrel
    have HP : Hid (p = 2 ^ k) := hp
    have hp2 : p ≤ 65536 := by rw [hp]; exact Nat.pow_le_pow_right (n := 2) (by omega) (by omega : k ≤ 16)
    clear hp
    by_cases hlt : k < n
    · go_wp2
      go_round
      case rel => exact ⟨k + 1, p * 2, by omega, by go_num, by go_num, by rw [HP.out, Nat.pow_succ]⟩
      case measure => simp [intOf]; omega
    · go_wp2
      go_ret
      have : k = n := by omega
      subst this
      exact ⟨ret_int (by have := HP.out; subst this; simp), rfl⟩
set_option maxHeartbeats 1000000 in
theorem specOr (a b : Nat) (w : World) (ha : a < 65536) (hb : b < 65536) :
    Calls Tryz.prog 176 #[.int .i64 a, .int .i64 b] w fun e w' => e = .returned (.int .i64 ((a ||| b : Nat) : Int)) ∧ w' = w := by
  obtain ⟨c, hc⟩ : ∃ c, c = a ||| b := ⟨_, rfl⟩
  have hcs : c < 65536 := by rw [hc]; exact or_small ha hb
  have HST : Hid (∀ i, c / 2 ^ i = c / 2 ^ (i + 1) * 2 + (if a / 2 ^ i % 2 = 1 ∨ b / 2 ^ i % 2 = 1 then 1 else 0)) := by rw [hc]; exact or_step a b
  rw [← hc]
  clear hc
  go_enter Tryz.func176, Tryz.ntmps176
  go_wp2
  go_loop [5, 6] (fun o i => ∃ (k p : Nat) (x : Int), k ≤ 16 ∧ x = (k : Int) - 1 ∧ i = .int .i64 x ∧ o = .int .i64 p ∧ p = c / 2 ^ k) (fun _ i => (intOf i + 1).toNat)
  case atStart => exact ⟨16, 0, 15, Nat.le_refl _, rfl, rfl, rfl, (Nat.div_eq_of_lt hcs).symm⟩
  case round =>
    obtain ⟨k, p, x, hk, hx, rfl, rfl, hp⟩ := hrel
    cases k with
    | zero =>
      have hp' : p = c := by simpa using hp
      subst hp'
      have hx' : x = -1 := by omega
      subst hx'
      clear hx hp
      go_wp2
      go_ret
      exact ⟨rfl, rfl⟩
    | succ j =>
      obtain ⟨z, hz⟩ : ∃ z : Nat, z = 2 ^ j := ⟨_, rfl⟩
      have hz1 : 0 < z := by rw [hz]; exact Nat.two_pow_pos j
      have hp2 : p ≤ 65536 := by rw [hp]; exact Nat.le_trans (Nat.div_le_self _ _) (by omega)
      have HB : Hid (∀ w, Calls Tryz.prog 199 #[.int .i64 j] w fun e w' => e = .returned (.int .i64 (z : Int)) ∧ w' = w) := by rw [hz]; exact fun w => specBit j w (by omega)
      have hst := HST.out j
      rw [← hp, ← hz] at hst
      have HS : Hid (c / z = p * 2 + (if a / z % 2 = 1 ∨ b / z % 2 = 1 then 1 else 0)) := hst
      have HZ : Hid (z = 2 ^ j) := hz
      clear hst hp hz
      have hx' : x = (j : Int) := by omega
      subst hx'
      clear hx
      obtain ⟨qa, hqa⟩ : ∃ q : Nat, q = a / z := ⟨_, rfl⟩
      obtain ⟨qb, hqb⟩ : ∃ q : Nat, q = b / z := ⟨_, rfl⟩
      have eA : (a : Int) / (z : Int) = (qa : Int) := by rw [hqa]; simp
      have eB : (b : Int) / (z : Int) = (qb : Int) := by rw [hqb]; simp
      have la : qa < 65536 := by rw [hqa]; exact Nat.lt_of_le_of_lt (Nat.div_le_self _ _) ha
      have lb : qb < 65536 := by rw [hqb]; exact Nat.lt_of_le_of_lt (Nat.div_le_self _ _) hb
      rw [← hqa, ← hqb] at HS
      clear hqa hqb
      by_cases h1 : qa % 2 = 1
      · have h1' : (qa : Int) % 2 = 1 := by omega
        go_wp2_with (go_at_call 199; refine (HB.out _).mono ?_; rintro e w' ⟨rfl, rfl⟩)
        exact ⟨⟨j, p * 2 + 1, (j : Int) - 1, by omega, rfl, rfl, by simp, by rw [← HZ.out, HS.out, if_pos (Or.inl h1)]⟩, by simp [intOf]⟩
      · have h1' : ¬ (qa : Int) % 2 = 1 := by omega
        by_cases h2 : qb % 2 = 1
        · have h2' : (qb : Int) % 2 = 1 := by omega
          go_wp2_with (go_at_call 199; refine (HB.out _).mono ?_; rintro e w' ⟨rfl, rfl⟩)
          exact ⟨⟨j, p * 2 + 1, (j : Int) - 1, by omega, rfl, rfl, by simp, by rw [← HZ.out, HS.out, if_pos (Or.inr h2)]⟩, by simp [intOf]⟩
        · have h2' : ((qb : Int) % 2 == 1) = false := by rw [beq_eq_false_iff_ne]; omega
          have h1b : ((qa : Int) % 2 == 1) = false := by rw [beq_eq_false_iff_ne]; omega
          go_wp2_with (go_at_call 199; refine (HB.out _).mono ?_; rintro e w' ⟨rfl, rfl⟩)
          exact ⟨⟨j, p * 2, (j : Int) - 1, by omega, rfl, rfl, by simp, by rw [← HZ.out, HS.out, if_neg (fun g => g.elim h1 h2)]; rfl⟩, by simp [intOf]⟩
set_option maxHeartbeats 1000000 in
theorem specMask (s : ByteArray) (w : World) (hs : s.size ≤ maxLen) :
    Calls Tryz.prog 177 #[.string s] w fun e w' => e = .returned (.int .i64 ((maskK s : Nat) : Int)) ∧ w' = w := by
  unfold maxLen at hs
  go_enter Tryz.func177, Tryz.ntmps177
  go_wp2
  go_loop [3, 4] (fun o i => ∃ k h : Nat, k ≤ s.size ∧ i = .int .i64 k ∧ o = .int .i64 h ∧ h < 65521 ∧ hashN (s.data.toList.take k) = h) (fun _ i => s.size - (intOf i).toNat)
  case atStart => exact ⟨0, 7, Nat.zero_le _, rfl, rfl, by omega, rfl⟩
  case round =>
    obtain ⟨k, h, hk, rfl, rfl, hh, hh2⟩ := hrel
    have HH : Hid (hashN (s.data.toList.take k) = h) := hh2
    clear hh2
    by_cases hlt : k < s.size
    · have HC : Hid (hashN (s.data.toList.take (k + 1)) = (31 * h + (s[k]).toNat) % 65521) := by
        show hashN (s.data.toList.take (k + 1)) = (31 * h + (s[k]).toNat) % 65521
        rw [hash_step s k hlt, HH.out]; rfl
      have hc : (s[k]).toNat < 256 := (s[k]).toNat_lt
      go_wp2
      go_round
      case rel => exact ⟨k + 1, (31 * h + (s[k]).toNat) % 65521, by omega, by go_num, by go_num, by omega, HC.out⟩
      case measure => simp [intOf]; omega
    · have hke : k = s.size := by omega
      have HE : Hid (maskK s = 2 ^ (h % 16) ||| 2 ^ (h / 16 % 16)) := by
        show maskK s = _
        have := HH.out
        rw [List.take_of_length_le (by simp [hke])] at this
        unfold maskK markN
        rw [this]
      obtain ⟨x, hx⟩ : ∃ x, x = h % 16 := ⟨_, rfl⟩
      obtain ⟨y, hy⟩ : ∃ y, y = h / 16 % 16 := ⟨_, rfl⟩
      rw [← hx, ← hy] at HE
      have hx1 : x < 16 := by omega
      have hy1 : y < 16 := by omega
      have ex : (h : Int) % 16 = (x : Int) := by omega
      have ey : (h : Int) / 16 % 16 = (y : Int) := by omega
      obtain ⟨px, hpx⟩ : ∃ p : Nat, p = 2 ^ x := ⟨_, rfl⟩
      obtain ⟨py, hpy⟩ : ∃ p : Nat, p = 2 ^ y := ⟨_, rfl⟩
      have CX : Hid (∀ w, Calls Tryz.prog 199 #[.int .i64 x] w fun e w' => e = .returned (.int .i64 (px : Int)) ∧ w' = w) := by rw [hpx]; exact fun w => specBit x w (by omega)
      have CY : Hid (∀ w, Calls Tryz.prog 199 #[.int .i64 y] w fun e w' => e = .returned (.int .i64 (py : Int)) ∧ w' = w) := by rw [hpy]; exact fun w => specBit y w (by omega)
      have hpx1 : px < 65536 := by rw [hpx]; exact pow_small hx1
      have hpy1 : py < 65536 := by rw [hpy]; exact pow_small hy1
      rw [← hpx, ← hpy] at HE
      clear hx hy hpx hpy
      have COR : Hid (∀ w, Calls Tryz.prog 176 #[.int .i64 px, .int .i64 py] w fun e w' => e = .returned (.int .i64 ((px ||| py : Nat) : Int)) ∧ w' = w) := fun w => specOr px py w hpx1 hpy1
      go_wp2_with fail
      refine (CX.out _).mono ?_
      rintro e w' ⟨rfl, rfl⟩
      go_wp2_with fail
      refine (CY.out _).mono ?_
      rintro e w' ⟨rfl, rfl⟩
      go_wp2_with fail
      refine (COR.out _).mono ?_
      rintro e w' ⟨rfl, rfl⟩
      go_wp2
      go_ret
      exact ⟨ret_int (by rw [HE.out]), rfl⟩
theorem bits_or (a b : Nat) (ha : a < 65536) (hb : b < 65536) : bits .or .i64 (a : Int) (b : Int) = ((a ||| b : Nat) : Int) := by
  have hc := or_small ha hb
  have e : (BitVec.ofInt 64 (a : Int) ||| BitVec.ofInt 64 (b : Int)).toNat = a ||| b := by
    simp [BitVec.toNat_or]
    rw [Nat.mod_eq_of_lt (by omega), Nat.mod_eq_of_lt (by omega)]
  have e2 : IntKind.i64.wrap (((a ||| b : Nat)) : Int) = ((a ||| b : Nat) : Int) := by
    rw [IntWalk.i64_left]
    generalize a ||| b = y at hc
    unfold wrap64; omega
  show IntKind.i64.wrap ((BitVec.ofInt 64 (a : Int) ||| BitVec.ofInt 64 (b : Int)).toNat : Int) = _
  rw [e, e2]
theorem pow_wrap (x : Nat) (hx : x < 16) : wrap64 (2 ^ x) = ((2 ^ x : Nat) : Int) := by
  have hp := pow_small hx
  have : (2 ^ x : Int) = ((2 ^ x : Nat) : Int) := by simp
  rw [this]
  generalize 2 ^ x = y at hp
  unfold wrap64; omega
set_option maxHeartbeats 1000000 in
theorem implMask (s : ByteArray) (w : World) (hs : s.size ≤ maxLen) :
    Calls Tryz.prog 184 #[.string s] w fun e w' => e = .returned (.int .i64 ((maskK s : Nat) : Int)) ∧ Below w.heap.size w w' := by
  unfold maxLen at hs
  go_enter Tryz.func184, Tryz.ntmps184
  go_wp2
  go_loop [3, 7] (fun o i => ∃ k h : Nat, k ≤ s.size ∧ i = .int .i64 k ∧ o = .int .i64 h ∧ h < 65521 ∧ hashN (s.data.toList.take k) = h) (fun _ i => s.size - (intOf i).toNat)
  case atStart => exact ⟨0, 7, Nat.zero_le _, rfl, rfl, by omega, rfl⟩
  case round =>
    obtain ⟨k, h, hk, rfl, rfl, hh, hh2⟩ := hrel
    have HH : Hid (hashN (s.data.toList.take k) = h) := hh2
    clear hh2
    by_cases hlt : k < s.size
    · have HC : Hid (hashN (s.data.toList.take (k + 1)) = (31 * h + (s[k]).toNat) % 65521) := by
        show hashN (s.data.toList.take (k + 1)) = (31 * h + (s[k]).toNat) % 65521
        rw [hash_step s k hlt, HH.out]; rfl
      have hc : (s[k]).toNat < 256 := (s[k]).toNat_lt
      go_wp2
      go_round
      case rel => exact ⟨k + 1, (31 * h + (s[k]).toNat) % 65521, by omega, by go_num, by go_num, by omega, HC.out⟩
      case measure => simp [intOf]; omega
    · have hke : k = s.size := by omega
      have HE : Hid (maskK s = 2 ^ (h % 16) ||| 2 ^ (h / 16 % 16)) := by
        show maskK s = _
        have := HH.out
        rw [List.take_of_length_le (by simp [hke])] at this
        unfold maskK markN
        rw [this]
      obtain ⟨x, hx⟩ : ∃ x, x = h % 16 := ⟨_, rfl⟩
      obtain ⟨y, hy⟩ : ∃ y, y = h / 16 % 16 := ⟨_, rfl⟩
      rw [← hx, ← hy] at HE
      have hx1 : x < 16 := by omega
      have hy1 : y < 16 := by omega
      have ex : (h : Int) % 16 = (x : Int) := by omega
      have ey : (h : Int) / 16 % 16 = (y : Int) := by omega
      clear hx hy
      go_wp2_with fail
      go_quiet (fail)
      go_wp2
      go_ret
      refine ⟨ret_int ?_, below_drewN (Below.refl _ _) _⟩
      rw [pow_wrap x hx1, pow_wrap y hy1, bits_or _ _ (pow_small hx1) (pow_small hy1), HE.out]
end Go.Proofs.YtlmgojlffgkciaaGreat

namespace Go.Proofs.YtlmgojlffgkciaaGreat
open Go.RowKit
set_option maxHeartbeats 400000 in
theorem kindOf_putKind (k t : ByteArray) (q n : Int) (w : World) :
    Calls Tryz.prog 138 #[.agg #[.string k, .int .i64 q, .int .i64 1, .string t, .int .i64 n]] w fun e w' => e = .returned (.iface 203 (.agg #[])) ∧ Below w.heap.size w w' := by
  go_enter Tryz.func138, Tryz.ntmps138
  go_wp2
  go_ret
  exact ⟨rfl, (Below.refl _ _).alloc (Nat.le_refl _) _⟩
set_option maxHeartbeats 400000 in
theorem kindOf_delKind (k t : ByteArray) (q n : Int) (w : World) :
    Calls Tryz.prog 138 #[.agg #[.string k, .int .i64 q, .int .i64 2, .string t, .int .i64 n]] w fun e w' => e = .returned (.iface 204 (.agg #[])) ∧ Below w.heap.size w w' := by
  go_enter Tryz.func138, Tryz.ntmps138
  go_wp2
  go_ret
  exact ⟨rfl, (Below.refl _ _).alloc (Nat.le_refl _) _⟩
set_option maxHeartbeats 400000 in
theorem kindOf_addKind (k t : ByteArray) (q n : Int) (w : World) :
    Calls Tryz.prog 138 #[.agg #[.string k, .int .i64 q, .int .i64 3, .string t, .int .i64 n]] w fun e w' => e = .returned (.iface 205 (.agg #[])) ∧ Below w.heap.size w w' := by
  go_enter Tryz.func138, Tryz.ntmps138
  go_wp2
  go_ret
  exact ⟨rfl, (Below.refl _ _).alloc (Nat.le_refl _) _⟩
set_option maxHeartbeats 400000 in
theorem kindOf_noKind (k t : ByteArray) (q d n : Int) (w : World) (d1 : ¬ d = 1) (d2 : ¬ d = 2) (d3 : ¬ d = 3) :
    Calls Tryz.prog 138 #[.agg #[.string k, .int .i64 q, .int .i64 d, .string t, .int .i64 n]] w fun e w' => e = .returned (.iface 206 (.agg #[])) ∧ Below w.heap.size w w' := by
  have e1 : (d == 1) = false := by simpa using d1
  have e2 : (d == 2) = false := by simpa using d2
  have e3 : (d == 3) = false := by simpa using d3
  go_enter Tryz.func138, Tryz.ntmps138
  go_wp2
  go_ret
  exact ⟨rfl, (Below.refl _ _).alloc (Nat.le_refl _) _⟩
set_option maxHeartbeats 400000 in
theorem fits_putKind (k t : ByteArray) (q n : Int) (w : World) :
    Calls Tryz.prog 262 #[.agg #[], .agg #[.string k, .int .i64 q, .int .i64 1, .string t, .int .i64 n]] w fun e w' => e = .returned (.bool (kindB 1 t n)) ∧ Below w.heap.size w w' := by
  go_enter Tryz.func262, Tryz.ntmps262
  go_wp2
  go_ret
  exact ⟨ret_bool (kindB_1 (t := t) (n := n)).symm, ((Below.refl _ _).alloc (Nat.le_refl _) _).alloc (by simp) _⟩
set_option maxHeartbeats 400000 in
theorem fits_delKind (k t : ByteArray) (q n : Int) (w : World) :
    Calls Tryz.prog 264 #[.agg #[], .agg #[.string k, .int .i64 q, .int .i64 2, .string t, .int .i64 n]] w fun e w' => e = .returned (.bool (kindB 2 t n)) ∧ Below w.heap.size w w' := by
  by_cases t0 : t = ByteArray.empty
  · subst t0
    by_cases n0 : n = 0
    · subst n0
      go_enter Tryz.func264, Tryz.ntmps264
      go_wp2
      all_goals
        go_ret
        exact ⟨ret_bool (by rw [kindB_2]; rfl), ((Below.refl _ _).alloc (Nat.le_refl _) _).alloc (by simp) _⟩
    · have n1 : (n == 0) = false := by simpa using n0
      go_enter Tryz.func264, Tryz.ntmps264
      go_wp2
      all_goals
        go_ret
        exact ⟨ret_bool (by rw [kindB_2]; simp [n0]), ((Below.refl _ _).alloc (Nat.le_refl _) _).alloc (by simp) _⟩
  · have t1 := size_pos_of_ne t0
    have t2 := toList_ne t0
    go_enter Tryz.func264, Tryz.ntmps264
    go_wp2
    all_goals
      go_ret
      exact ⟨ret_bool (by rw [kindB_2]; simp [t1]), ((Below.refl _ _).alloc (Nat.le_refl _) _).alloc (by simp) _⟩
set_option maxHeartbeats 400000 in
theorem fits_addKind (k t : ByteArray) (q n : Int) (w : World) :
    Calls Tryz.prog 266 #[.agg #[], .agg #[.string k, .int .i64 q, .int .i64 3, .string t, .int .i64 n]] w fun e w' => e = .returned (.bool (kindB 3 t n)) ∧ Below w.heap.size w w' := by
  by_cases t0 : t = ByteArray.empty
  · subst t0
    go_enter Tryz.func266, Tryz.ntmps266
    go_wp2
    all_goals
      go_ret
      exact ⟨ret_bool (by rw [kindB_3]; rfl), ((Below.refl _ _).alloc (Nat.le_refl _) _).alloc (by simp) _⟩
  · have t1 := size_pos_of_ne t0
    have t2 := toList_ne t0
    go_enter Tryz.func266, Tryz.ntmps266
    go_wp2
    all_goals
      go_ret
      exact ⟨ret_bool (by rw [kindB_3]; simp [t1, t2]), ((Below.refl _ _).alloc (Nat.le_refl _) _).alloc (by simp) _⟩
set_option maxHeartbeats 400000 in
theorem fits_noKind (k t : ByteArray) (q d n : Int) (w : World) (d1 : ¬ d = 1) (d2 : ¬ d = 2) (d3 : ¬ d = 3) :
    Calls Tryz.prog 268 #[.agg #[], .agg #[.string k, .int .i64 q, .int .i64 d, .string t, .int .i64 n]] w fun e w' => e = .returned (.bool (kindB d t n)) ∧ Below w.heap.size w w' := by
  go_enter Tryz.func268, Tryz.ntmps268
  go_wp2
  go_ret
  exact ⟨ret_bool (kindB_0 d1 d2 d3).symm, ((Below.refl _ _).alloc (Nat.le_refl _) _).alloc (by simp) _⟩
end Go.Proofs.YtlmgojlffgkciaaGreat

namespace Go.Proofs.YtlmgojlffgkciaaGreat
open Go.RowKit
set_option maxRecDepth 100000
set_option maxHeartbeats 2000000
attribute [local go_sem] Oper.semAt_some
theorem below_drewN {B : Nat} {w w' : World} (h : Below B w w') (n : Nat) : Below B w (w'.drewN n) := h.trans ⟨rfl, rfl, rfl, Nat.le_refl _, fun _ _ => rfl⟩
theorem implEnt_key (k t : ByteArray) (q d n : Int) (w : World) (hs : k.size ≤ maxLen) (hk : keyB k = false) :
    Calls Tryz.prog 140 #[.agg #[.string k, .int .i64 q, .int .i64 d, .string t, .int .i64 n]] w fun e w' => e = .returned (.bool (entB k q d t n)) ∧ Below w.heap.size w w' := by
  go_enter Tryz.func140, Tryz.ntmps140
  go_wp2_with fail
  go_quiet (first | (go_at_call 175; refine Calls.quiet_of_same (v := .bool false) ((implKey _ _ hs).mono (fun e w' h => by rw [hk] at h; exact h))))
  go_wp2
  go_ret
  exact ⟨ret_bool (entB_key hk).symm, below_drewN ((Below.refl _ _).alloc (Nat.le_refl _) _) _⟩
theorem implEnt_q1 (k t : ByteArray) (q d n : Int) (w : World) (hs : k.size ≤ maxLen) (hk : keyB k = true) (h1 : q < 1) :
    Calls Tryz.prog 140 #[.agg #[.string k, .int .i64 q, .int .i64 d, .string t, .int .i64 n]] w fun e w' => e = .returned (.bool (entB k q d t n)) ∧ Below w.heap.size w w' := by
  have g : decide (1 ≤ q) = false := decide_eq_false (by omega)
  go_enter Tryz.func140, Tryz.ntmps140
  go_wp2_with fail
  go_quiet (first | (go_at_call 175; refine Calls.quiet_of_same (v := .bool true) ((implKey _ _ hs).mono (fun e w' h => by rw [hk] at h; exact h))))
  go_wp2
  go_ret
  exact ⟨ret_bool (entB_q1 h1).symm, below_drewN ((Below.refl _ _).alloc (Nat.le_refl _) _) _⟩
theorem implEnt_q2 (k t : ByteArray) (q d n : Int) (w : World) (hs : k.size ≤ maxLen) (hk : keyB k = true) (h1 : 1 ≤ q) (h2 : 100000 < q) :
    Calls Tryz.prog 140 #[.agg #[.string k, .int .i64 q, .int .i64 d, .string t, .int .i64 n]] w fun e w' => e = .returned (.bool (entB k q d t n)) ∧ Below w.heap.size w w' := by
  have g : decide (q ≤ 100000) = false := decide_eq_false (by omega)
  go_enter Tryz.func140, Tryz.ntmps140
  go_wp2_with fail
  go_quiet (first | (go_at_call 175; refine Calls.quiet_of_same (v := .bool true) ((implKey _ _ hs).mono (fun e w' h => by rw [hk] at h; exact h))))
  go_wp2
  go_ret
  exact ⟨ret_bool (entB_q2 h2).symm, below_drewN ((Below.refl _ _).alloc (Nat.le_refl _) _) _⟩
theorem implEnt_n1 (k t : ByteArray) (q d n : Int) (w : World) (hs : k.size ≤ maxLen) (hk : keyB k = true) (h1 : 1 ≤ q) (h2 : q ≤ 100000) (h3 : n < -1000000) :
    Calls Tryz.prog 140 #[.agg #[.string k, .int .i64 q, .int .i64 d, .string t, .int .i64 n]] w fun e w' => e = .returned (.bool (entB k q d t n)) ∧ Below w.heap.size w w' := by
  have g : decide (-1000000 ≤ n) = false := decide_eq_false (by omega)
  go_enter Tryz.func140, Tryz.ntmps140
  go_wp2_with fail
  go_quiet (first | (go_at_call 175; refine Calls.quiet_of_same (v := .bool true) ((implKey _ _ hs).mono (fun e w' h => by rw [hk] at h; exact h))))
  go_wp2
  go_ret
  exact ⟨ret_bool (entB_n1 h3).symm, below_drewN ((Below.refl _ _).alloc (Nat.le_refl _) _) _⟩
theorem implEnt_n2 (k t : ByteArray) (q d n : Int) (w : World) (hs : k.size ≤ maxLen) (hk : keyB k = true) (h1 : 1 ≤ q) (h2 : q ≤ 100000) (h3 : -1000000 ≤ n) (h4 : 1000000 < n) :
    Calls Tryz.prog 140 #[.agg #[.string k, .int .i64 q, .int .i64 d, .string t, .int .i64 n]] w fun e w' => e = .returned (.bool (entB k q d t n)) ∧ Below w.heap.size w w' := by
  have g : decide (n ≤ 1000000) = false := decide_eq_false (by omega)
  go_enter Tryz.func140, Tryz.ntmps140
  go_wp2_with fail
  go_quiet (first | (go_at_call 175; refine Calls.quiet_of_same (v := .bool true) ((implKey _ _ hs).mono (fun e w' h => by rw [hk] at h; exact h))))
  go_wp2
  go_ret
  exact ⟨ret_bool (entB_n2 h4).symm, below_drewN ((Below.refl _ _).alloc (Nat.le_refl _) _) _⟩
theorem implEnt_t (k t : ByteArray) (q d n : Int) (w : World) (hs : k.size ≤ maxLen) (hk : keyB k = true) (h1 : 1 ≤ q) (h2 : q ≤ 100000) (h3 : -1000000 ≤ n) (h4 : n ≤ 1000000) (h5 : 60 < t.size) :
    Calls Tryz.prog 140 #[.agg #[.string k, .int .i64 q, .int .i64 d, .string t, .int .i64 n]] w fun e w' => e = .returned (.bool (entB k q d t n)) ∧ Below w.heap.size w w' := by
  have g : decide ((t.size : Int) ≤ 60) = false := decide_eq_false (by omega)
  go_enter Tryz.func140, Tryz.ntmps140
  go_wp2_with fail
  go_quiet (first | (go_at_call 175; refine Calls.quiet_of_same (v := .bool true) ((implKey _ _ hs).mono (fun e w' h => by rw [hk] at h; exact h))))
  go_wp2
  go_ret
  exact ⟨ret_bool (entB_t h5).symm, below_drewN ((Below.refl _ _).alloc (Nat.le_refl _) _) _⟩
theorem implEnt_putKind (k t : ByteArray) (q n : Int) (w : World) (hs : k.size ≤ maxLen) (ht : t.size ≤ 60) (hk : keyB k = true) (h1 : 1 ≤ q) (h2 : q ≤ 100000) (h3 : -1000000 ≤ n) (h4 : n ≤ 1000000) :
    Calls Tryz.prog 140 #[.agg #[.string k, .int .i64 q, .int .i64 1, .string t, .int .i64 n]] w fun e w' => e = .returned (.bool (entB k q 1 t n)) ∧ Below w.heap.size w w' := by
  have HR : Hid (entB k q 1 t n = kindB 1 t n) := entB_rest hk h1 h2 h3 h4 ht
  have ht' : (t.size : Int) ≤ 60 := by omega
  clear ht
  go_enter Tryz.func140, Tryz.ntmps140
  go_wp2_with fail
  obtain ⟨X, hX⟩ : ∃ X, X = w.heap.size := ⟨_, rfl⟩
  obtain ⟨W, hW⟩ : ∃ W, W = w.alloc (.cells #[.string k, .int .i64 q, .int .i64 1, .string t, .int .i64 n] 78) := ⟨_, rfl⟩
  have x0 : W.cell? ⟨X, 0, none⟩ = some (.string k) := by rw [hW, hX]; simp
  have x1 : W.cell? ⟨X, 1, none⟩ = some (.int .i64 q) := by rw [hW, hX]; simp
  have x2 : W.cell? ⟨X, 2, none⟩ = some (.int .i64 1) := by rw [hW, hX]; simp
  have x3 : W.cell? ⟨X, 3, none⟩ = some (.string t) := by rw [hW, hX]; simp
  have x4 : W.cell? ⟨X, 4, none⟩ = some (.int .i64 n) := by rw [hW, hX]; simp
  have kW : Below w.heap.size w W := by rw [hW]; exact (Below.refl _ _).alloc (Nat.le_refl _) _
  rw [← hW, ← hX]
  clear hW hX
  have HKW : Hid (Below w.heap.size w W) := kW
  clear kW
  have k0 : Below W.heap.size W W.drew := (Below.refl _ W).drew
  have HMK : Hid (∀ w', Below W.heap.size W w' → (w'.cell? ⟨X, 0, none⟩ = some (.string k) ∧ w'.cell? ⟨X, 1, none⟩ = some (.int .i64 q) ∧ w'.cell? ⟨X, 2, none⟩ = some (.int .i64 1) ∧ w'.cell? ⟨X, 3, none⟩ = some (.string t) ∧ w'.cell? ⟨X, 4, none⟩ = some (.int .i64 n) ∧ X < w'.heap.size ∧ Below W.heap.size W w')) := fun w' k => ⟨cell_later k x0, cell_later k x1, cell_later k x2, cell_later k x3, cell_later k x4, World.block_lt_of_cell? _ _ (cell_later k x0), k⟩
  have hm : ∀ w : World, (method 373 203 (.agg #[]) "loop.example/comptoir/impl.fits").run Tryz.prog w = .ok (262, .agg #[]) w := fun _ => by kernel_rfl
  go_region_held3 (fun w' => w'.cell? ⟨X, 0, none⟩ = some (.string k) ∧ w'.cell? ⟨X, 1, none⟩ = some (.int .i64 q) ∧ w'.cell? ⟨X, 2, none⟩ = some (.int .i64 1) ∧ w'.cell? ⟨X, 3, none⟩ = some (.string t) ∧ w'.cell? ⟨X, 4, none⟩ = some (.int .i64 n) ∧ X < w'.heap.size ∧ Below W.heap.size W w') (first | exact HMK.out _ k2 | exact HMK.out _ k1 | exact HMK.out _ k0) (first
    | (go_at_call 175; refine (implKey _ _ hs).mono ?_; rw [hk]; rintro e w' ⟨rfl, rfl⟩)
    | (go_at_call 138; refine (kindOf_putKind _ _ _ _ _).mono ?_; rintro e w1 ⟨rfl, hb1⟩; have k1 : Below W.heap.size W w1 := k0.trans (hb1.mono k0.size))
    | (go_at_call 262; refine (fits_putKind _ _ _ _ _).mono ?_; rintro e w2 ⟨rfl, hb2⟩; have k2 : Below W.heap.size W w2 := k1.trans (hb2.mono k1.size)))
  go_wp2
  go_ret
  exact ⟨ret_bool HR.out.symm, HKW.out.trans (k2.mono HKW.out.size)⟩
theorem implEnt_delKind (k t : ByteArray) (q n : Int) (w : World) (hs : k.size ≤ maxLen) (ht : t.size ≤ 60) (hk : keyB k = true) (h1 : 1 ≤ q) (h2 : q ≤ 100000) (h3 : -1000000 ≤ n) (h4 : n ≤ 1000000) :
    Calls Tryz.prog 140 #[.agg #[.string k, .int .i64 q, .int .i64 2, .string t, .int .i64 n]] w fun e w' => e = .returned (.bool (entB k q 2 t n)) ∧ Below w.heap.size w w' := by
  have HR : Hid (entB k q 2 t n = kindB 2 t n) := entB_rest hk h1 h2 h3 h4 ht
  have ht' : (t.size : Int) ≤ 60 := by omega
  clear ht
  go_enter Tryz.func140, Tryz.ntmps140
  go_wp2_with fail
  obtain ⟨X, hX⟩ : ∃ X, X = w.heap.size := ⟨_, rfl⟩
  obtain ⟨W, hW⟩ : ∃ W, W = w.alloc (.cells #[.string k, .int .i64 q, .int .i64 2, .string t, .int .i64 n] 78) := ⟨_, rfl⟩
  have x0 : W.cell? ⟨X, 0, none⟩ = some (.string k) := by rw [hW, hX]; simp
  have x1 : W.cell? ⟨X, 1, none⟩ = some (.int .i64 q) := by rw [hW, hX]; simp
  have x2 : W.cell? ⟨X, 2, none⟩ = some (.int .i64 2) := by rw [hW, hX]; simp
  have x3 : W.cell? ⟨X, 3, none⟩ = some (.string t) := by rw [hW, hX]; simp
  have x4 : W.cell? ⟨X, 4, none⟩ = some (.int .i64 n) := by rw [hW, hX]; simp
  have kW : Below w.heap.size w W := by rw [hW]; exact (Below.refl _ _).alloc (Nat.le_refl _) _
  rw [← hW, ← hX]
  clear hW hX
  have HKW : Hid (Below w.heap.size w W) := kW
  clear kW
  have k0 : Below W.heap.size W W.drew := (Below.refl _ W).drew
  have HMK : Hid (∀ w', Below W.heap.size W w' → (w'.cell? ⟨X, 0, none⟩ = some (.string k) ∧ w'.cell? ⟨X, 1, none⟩ = some (.int .i64 q) ∧ w'.cell? ⟨X, 2, none⟩ = some (.int .i64 2) ∧ w'.cell? ⟨X, 3, none⟩ = some (.string t) ∧ w'.cell? ⟨X, 4, none⟩ = some (.int .i64 n) ∧ X < w'.heap.size ∧ Below W.heap.size W w')) := fun w' k => ⟨cell_later k x0, cell_later k x1, cell_later k x2, cell_later k x3, cell_later k x4, World.block_lt_of_cell? _ _ (cell_later k x0), k⟩
  have hm : ∀ w : World, (method 373 204 (.agg #[]) "loop.example/comptoir/impl.fits").run Tryz.prog w = .ok (264, .agg #[]) w := fun _ => by kernel_rfl
  go_region_held3 (fun w' => w'.cell? ⟨X, 0, none⟩ = some (.string k) ∧ w'.cell? ⟨X, 1, none⟩ = some (.int .i64 q) ∧ w'.cell? ⟨X, 2, none⟩ = some (.int .i64 2) ∧ w'.cell? ⟨X, 3, none⟩ = some (.string t) ∧ w'.cell? ⟨X, 4, none⟩ = some (.int .i64 n) ∧ X < w'.heap.size ∧ Below W.heap.size W w') (first | exact HMK.out _ k2 | exact HMK.out _ k1 | exact HMK.out _ k0) (first
    | (go_at_call 175; refine (implKey _ _ hs).mono ?_; rw [hk]; rintro e w' ⟨rfl, rfl⟩)
    | (go_at_call 138; refine (kindOf_delKind _ _ _ _ _).mono ?_; rintro e w1 ⟨rfl, hb1⟩; have k1 : Below W.heap.size W w1 := k0.trans (hb1.mono k0.size))
    | (go_at_call 264; refine (fits_delKind _ _ _ _ _).mono ?_; rintro e w2 ⟨rfl, hb2⟩; have k2 : Below W.heap.size W w2 := k1.trans (hb2.mono k1.size)))
  go_wp2
  go_ret
  exact ⟨ret_bool HR.out.symm, HKW.out.trans (k2.mono HKW.out.size)⟩
theorem implEnt_addKind (k t : ByteArray) (q n : Int) (w : World) (hs : k.size ≤ maxLen) (ht : t.size ≤ 60) (hk : keyB k = true) (h1 : 1 ≤ q) (h2 : q ≤ 100000) (h3 : -1000000 ≤ n) (h4 : n ≤ 1000000) :
    Calls Tryz.prog 140 #[.agg #[.string k, .int .i64 q, .int .i64 3, .string t, .int .i64 n]] w fun e w' => e = .returned (.bool (entB k q 3 t n)) ∧ Below w.heap.size w w' := by
  have HR : Hid (entB k q 3 t n = kindB 3 t n) := entB_rest hk h1 h2 h3 h4 ht
  have ht' : (t.size : Int) ≤ 60 := by omega
  clear ht
  go_enter Tryz.func140, Tryz.ntmps140
  go_wp2_with fail
  obtain ⟨X, hX⟩ : ∃ X, X = w.heap.size := ⟨_, rfl⟩
  obtain ⟨W, hW⟩ : ∃ W, W = w.alloc (.cells #[.string k, .int .i64 q, .int .i64 3, .string t, .int .i64 n] 78) := ⟨_, rfl⟩
  have x0 : W.cell? ⟨X, 0, none⟩ = some (.string k) := by rw [hW, hX]; simp
  have x1 : W.cell? ⟨X, 1, none⟩ = some (.int .i64 q) := by rw [hW, hX]; simp
  have x2 : W.cell? ⟨X, 2, none⟩ = some (.int .i64 3) := by rw [hW, hX]; simp
  have x3 : W.cell? ⟨X, 3, none⟩ = some (.string t) := by rw [hW, hX]; simp
  have x4 : W.cell? ⟨X, 4, none⟩ = some (.int .i64 n) := by rw [hW, hX]; simp
  have kW : Below w.heap.size w W := by rw [hW]; exact (Below.refl _ _).alloc (Nat.le_refl _) _
  rw [← hW, ← hX]
  clear hW hX
  have HKW : Hid (Below w.heap.size w W) := kW
  clear kW
  have k0 : Below W.heap.size W W.drew := (Below.refl _ W).drew
  have HMK : Hid (∀ w', Below W.heap.size W w' → (w'.cell? ⟨X, 0, none⟩ = some (.string k) ∧ w'.cell? ⟨X, 1, none⟩ = some (.int .i64 q) ∧ w'.cell? ⟨X, 2, none⟩ = some (.int .i64 3) ∧ w'.cell? ⟨X, 3, none⟩ = some (.string t) ∧ w'.cell? ⟨X, 4, none⟩ = some (.int .i64 n) ∧ X < w'.heap.size ∧ Below W.heap.size W w')) := fun w' k => ⟨cell_later k x0, cell_later k x1, cell_later k x2, cell_later k x3, cell_later k x4, World.block_lt_of_cell? _ _ (cell_later k x0), k⟩
  have hm : ∀ w : World, (method 373 205 (.agg #[]) "loop.example/comptoir/impl.fits").run Tryz.prog w = .ok (266, .agg #[]) w := fun _ => by kernel_rfl
  go_region_held3 (fun w' => w'.cell? ⟨X, 0, none⟩ = some (.string k) ∧ w'.cell? ⟨X, 1, none⟩ = some (.int .i64 q) ∧ w'.cell? ⟨X, 2, none⟩ = some (.int .i64 3) ∧ w'.cell? ⟨X, 3, none⟩ = some (.string t) ∧ w'.cell? ⟨X, 4, none⟩ = some (.int .i64 n) ∧ X < w'.heap.size ∧ Below W.heap.size W w') (first | exact HMK.out _ k2 | exact HMK.out _ k1 | exact HMK.out _ k0) (first
    | (go_at_call 175; refine (implKey _ _ hs).mono ?_; rw [hk]; rintro e w' ⟨rfl, rfl⟩)
    | (go_at_call 138; refine (kindOf_addKind _ _ _ _ _).mono ?_; rintro e w1 ⟨rfl, hb1⟩; have k1 : Below W.heap.size W w1 := k0.trans (hb1.mono k0.size))
    | (go_at_call 266; refine (fits_addKind _ _ _ _ _).mono ?_; rintro e w2 ⟨rfl, hb2⟩; have k2 : Below W.heap.size W w2 := k1.trans (hb2.mono k1.size)))
  go_wp2
  go_ret
  exact ⟨ret_bool HR.out.symm, HKW.out.trans (k2.mono HKW.out.size)⟩
theorem implEnt_noKind (k t : ByteArray) (q d n : Int) (w : World) (hs : k.size ≤ maxLen) (ht : t.size ≤ 60) (hk : keyB k = true) (h1 : 1 ≤ q) (h2 : q ≤ 100000) (h3 : -1000000 ≤ n) (h4 : n ≤ 1000000) (d1 : ¬ d = 1) (d2 : ¬ d = 2) (d3 : ¬ d = 3) :
    Calls Tryz.prog 140 #[.agg #[.string k, .int .i64 q, .int .i64 d, .string t, .int .i64 n]] w fun e w' => e = .returned (.bool (entB k q d t n)) ∧ Below w.heap.size w w' := by
  have HR : Hid (entB k q d t n = kindB d t n) := entB_rest hk h1 h2 h3 h4 ht
  have ht' : (t.size : Int) ≤ 60 := by omega
  clear ht
  go_enter Tryz.func140, Tryz.ntmps140
  go_wp2_with fail
  obtain ⟨X, hX⟩ : ∃ X, X = w.heap.size := ⟨_, rfl⟩
  obtain ⟨W, hW⟩ : ∃ W, W = w.alloc (.cells #[.string k, .int .i64 q, .int .i64 d, .string t, .int .i64 n] 78) := ⟨_, rfl⟩
  have x0 : W.cell? ⟨X, 0, none⟩ = some (.string k) := by rw [hW, hX]; simp
  have x1 : W.cell? ⟨X, 1, none⟩ = some (.int .i64 q) := by rw [hW, hX]; simp
  have x2 : W.cell? ⟨X, 2, none⟩ = some (.int .i64 d) := by rw [hW, hX]; simp
  have x3 : W.cell? ⟨X, 3, none⟩ = some (.string t) := by rw [hW, hX]; simp
  have x4 : W.cell? ⟨X, 4, none⟩ = some (.int .i64 n) := by rw [hW, hX]; simp
  have kW : Below w.heap.size w W := by rw [hW]; exact (Below.refl _ _).alloc (Nat.le_refl _) _
  rw [← hW, ← hX]
  clear hW hX
  have HKW : Hid (Below w.heap.size w W) := kW
  clear kW
  have k0 : Below W.heap.size W W.drew := (Below.refl _ W).drew
  have HMK : Hid (∀ w', Below W.heap.size W w' → (w'.cell? ⟨X, 0, none⟩ = some (.string k) ∧ w'.cell? ⟨X, 1, none⟩ = some (.int .i64 q) ∧ w'.cell? ⟨X, 2, none⟩ = some (.int .i64 d) ∧ w'.cell? ⟨X, 3, none⟩ = some (.string t) ∧ w'.cell? ⟨X, 4, none⟩ = some (.int .i64 n) ∧ X < w'.heap.size ∧ Below W.heap.size W w')) := fun w' k => ⟨cell_later k x0, cell_later k x1, cell_later k x2, cell_later k x3, cell_later k x4, World.block_lt_of_cell? _ _ (cell_later k x0), k⟩
  have hm : ∀ w : World, (method 373 206 (.agg #[]) "loop.example/comptoir/impl.fits").run Tryz.prog w = .ok (268, .agg #[]) w := fun _ => by kernel_rfl
  go_region_held3 (fun w' => w'.cell? ⟨X, 0, none⟩ = some (.string k) ∧ w'.cell? ⟨X, 1, none⟩ = some (.int .i64 q) ∧ w'.cell? ⟨X, 2, none⟩ = some (.int .i64 d) ∧ w'.cell? ⟨X, 3, none⟩ = some (.string t) ∧ w'.cell? ⟨X, 4, none⟩ = some (.int .i64 n) ∧ X < w'.heap.size ∧ Below W.heap.size W w') (first | exact HMK.out _ k2 | exact HMK.out _ k1 | exact HMK.out _ k0) (first
    | (go_at_call 175; refine (implKey _ _ hs).mono ?_; rw [hk]; rintro e w' ⟨rfl, rfl⟩)
    | (go_at_call 138; refine (kindOf_noKind _ _ _ _ _ _ d1 d2 d3).mono ?_; rintro e w1 ⟨rfl, hb1⟩; have k1 : Below W.heap.size W w1 := k0.trans (hb1.mono k0.size))
    | (go_at_call 268; refine (fits_noKind _ _ _ _ _ _ d1 d2 d3).mono ?_; rintro e w2 ⟨rfl, hb2⟩; have k2 : Below W.heap.size W w2 := k1.trans (hb2.mono k1.size)))
  go_wp2
  go_ret
  exact ⟨ret_bool HR.out.symm, HKW.out.trans (k2.mono HKW.out.size)⟩
theorem implEnt (k t : ByteArray) (q d n : Int) (w : World) (hs : k.size ≤ maxLen) :
    Calls Tryz.prog 140 #[.agg #[.string k, .int .i64 q, .int .i64 d, .string t, .int .i64 n]] w fun e w' => e = .returned (.bool (entB k q d t n)) ∧ Below w.heap.size w w' := by
  cases hk : keyB k with
  | false => exact implEnt_key k t q d n w hs hk
  | true =>
    by_cases h1 : q < 1
    · exact implEnt_q1 k t q d n w hs hk h1
    by_cases h2 : 100000 < q
    · exact implEnt_q2 k t q d n w hs hk (by omega) h2
    by_cases h3 : n < -1000000
    · exact implEnt_n1 k t q d n w hs hk (by omega) (by omega) h3
    by_cases h4 : 1000000 < n
    · exact implEnt_n2 k t q d n w hs hk (by omega) (by omega) (by omega) h4
    by_cases h5 : 60 < t.size
    · exact implEnt_t k t q d n w hs hk (by omega) (by omega) (by omega) (by omega) h5
    by_cases d1 : d = 1
    · subst d1; exact implEnt_putKind k t q n w hs (by omega) hk (by omega) (by omega) (by omega) (by omega)
    by_cases d2 : d = 2
    · subst d2; exact implEnt_delKind k t q n w hs (by omega) hk (by omega) (by omega) (by omega) (by omega)
    by_cases d3 : d = 3
    · subst d3; exact implEnt_addKind k t q n w hs (by omega) hk (by omega) (by omega) (by omega) (by omega)
    exact implEnt_noKind k t q d n w hs (by omega) hk (by omega) (by omega) (by omega) (by omega) d1 d2 d3
end Go.Proofs.YtlmgojlffgkciaaGreat

namespace Go.Proofs.YtlmgojlffgkciaaGreat
open Go.RowKit
set_option maxHeartbeats 800000 in
theorem specMaskL (a : Option Addr) (len cap : Nat) (L : List EntD) (w : World) (hL : EntsAt w a len cap L) :
    Calls Tryz.prog 141 #[.slice a len cap] w fun e w' => e = .returned (.int .i64 ((maskL L : Nat) : Int)) ∧ Below w.heap.size w w' := by
  have HLEN : Hid (L.length = len) := hL.length
  have hbl := hL.room
  have hbc := hL.big
  unfold maxLen at hbc
  have HL : Hid (EntsAt w a len cap L) := hL
  clear hL
  go_enter Tryz.func141, Tryz.ntmps141
  go_wp2
  go_loopw [3, 4] (fun m i wr => ∃ k p : Nat, k ≤ len ∧ i = .int .i64 k ∧ m = .int .i64 p ∧ p < 65536 ∧ Below w.heap.size w wr ∧ p = maskL (L.take k)) (fun _ i _ => len - (intOf i).toNat)
  case atStart => exact ⟨0, 0, Nat.zero_le _, rfl, rfl, by omega, Below.refl _ _, rfl⟩
  case round =>
    obtain ⟨k, p, hk, rfl, rfl, hp, hb, hm⟩ := hrel
    have HM : Hid (p = maskL (L.take k)) := hm
    clear hm
    by_cases hlt : k < len
    · obtain ⟨b, off, rfl, hbb⟩ := HL.out.form (by omega)
      obtain ⟨s, q, d, t, n, hg, hlw, g0, g1, g2, g3, g4⟩ := HL.out.ent hb hbb k hlt
      have HG : Hid (L[k]? = some (s, q, d, t, n)) := hg
      have hs := hlw.1
      simp only at hs
      clear hg hlw
      obtain ⟨z, hz⟩ : ∃ z, z = maskK s := ⟨_, rfl⟩
      have hz1 : z < 65536 := by rw [hz]; exact maskK_lt s
      have CK : Hid (∀ w, Calls Tryz.prog 177 #[.string s] w fun e w' => e = .returned (.int .i64 (z : Int)) ∧ w' = w) := by rw [hz]; exact fun w => specMask s w hs
      have CO : Hid (∀ w, Calls Tryz.prog 176 #[.int .i64 p, .int .i64 z] w fun e w' => e = .returned (.int .i64 ((p ||| z : Nat) : Int)) ∧ w' = w) := fun w => specOr p z w hp hz1
      have HN : Hid (p ||| z = maskL (L.take (k + 1))) := by
        show p ||| z = maskL (L.take (k + 1))
        rw [maskL_snoc HG.out, ← HM.out, hz]
      clear hz
      go_wp2_with (first | (go_at_call 177; refine (CK.out _).mono ?_; rintro e w1 ⟨rfl, rfl⟩) | (go_at_call 176; refine (CO.out _).mono ?_; rintro e w2 ⟨rfl, rfl⟩))
      go_roundw
      case rel => exact ⟨k + 1, p ||| z, by omega, by go_num, rfl, or_small hp hz1, hb, HN.out⟩
      case measure => simp [intOf]; omega
    · go_wp2
      go_ret
      refine ⟨ret_int ?_, hb⟩
      have := HM.out
      rw [List.take_of_length_le (by rw [HLEN.out]; omega)] at this
      rw [this]
set_option maxHeartbeats 800000 in
theorem implMaskL (a : Option Addr) (len cap : Nat) (L : List EntD) (w : World) (hL : EntsAt w a len cap L) :
    Calls Tryz.prog 146 #[.slice a len cap] w fun e w' => e = .returned (.int .i64 ((maskL L : Nat) : Int)) ∧ Below w.heap.size w w' := by
  have HLEN : Hid (L.length = len) := hL.length
  have hbl := hL.room
  have hbc := hL.big
  unfold maxLen at hbc
  have HL : Hid (EntsAt w a len cap L) := hL
  clear hL
  go_enter Tryz.func146, Tryz.ntmps146
  go_wp2
  go_loopw [3, 8] (fun m i wr => ∃ k p : Nat, k ≤ len ∧ i = .int .i64 k ∧ m = .int .i64 p ∧ p < 65536 ∧ Below w.heap.size w wr ∧ p = maskL (L.take k)) (fun _ i _ => len - (intOf i).toNat)
  case atStart => exact ⟨0, 0, Nat.zero_le _, rfl, rfl, by omega, Below.refl _ _, rfl⟩
  case round =>
    obtain ⟨k, p, hk, rfl, rfl, hp, hb, hm⟩ := hrel
    have HM : Hid (p = maskL (L.take k)) := hm
    clear hm
    by_cases hlt : k < len
    · obtain ⟨b, off, rfl, hbb⟩ := HL.out.form (by omega)
      obtain ⟨s, q, d, t, n, hg, hlw, g0, g1, g2, g3, g4⟩ := HL.out.ent hb hbb k hlt
      have HG : Hid (L[k]? = some (s, q, d, t, n)) := hg
      have hs := hlw.1
      simp only at hs
      clear hg hlw
      obtain ⟨z, hz⟩ : ∃ z, z = maskK s := ⟨_, rfl⟩
      have hz1 : z < 65536 := by rw [hz]; exact maskK_lt s
      have CK : Hid (∀ w, Calls Tryz.prog 184 #[.string s] w fun e w' => e = .returned (.int .i64 (z : Int)) ∧ Below w.heap.size w w') := by rw [hz]; exact fun w => implMask s w hs
      have HN : Hid (p ||| z = maskL (L.take (k + 1))) := by
        show p ||| z = maskL (L.take (k + 1))
        rw [maskL_snoc HG.out, ← HM.out, hz]
      have hor := bits_or p z hp hz1
      clear hz
      go_wp2_with (go_at_call 184; refine (CK.out _).mono ?_; rintro e w1 ⟨rfl, hb1⟩; obtain ⟨hc1, hf1⟩ := bcell hb1)
      go_roundw
      case rel => exact ⟨k + 1, p ||| z, by omega, by go_num, by rw [← hor], or_small hp hz1, (hb.alloc (by have := hb.size; omega) _).trans (hb1.mono (by have := hb.size; simp; omega)), HN.out⟩
      case measure => simp [intOf]; omega
    · go_wp2
      go_ret
      refine ⟨ret_int ?_, hb⟩
      have := HM.out
      rw [List.take_of_length_le (by rw [HLEN.out]; omega)] at this
      rw [this]
end Go.Proofs.YtlmgojlffgkciaaGreat
