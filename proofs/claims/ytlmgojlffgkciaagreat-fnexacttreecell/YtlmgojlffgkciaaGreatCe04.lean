/-
  What the program's and the document's EntryLess answer at every two entries, by walks of their Go text; and what the library's strings.Compare, cmp.Compare and cmp.Or answer to them.
  What the program's and the document's KeyMask answer at every text, by walks of their Go text.
-/
import Derived.Deep.RegionHeld3
import Derived.Deep.DeepCutAuto
import Derived.WalkSpells
import Derived.Lib.Walk
import Derived.WalkLawsBesides
import Derived.Test.YtlmgojlffgkciaaGreatCe00
import Derived.Test.YtlmgojlffgkciaaGreatCe01
import Derived.Deep.RegionWith
import Derived.Deep.QuietTactic
import Derived.BigQuiet
namespace Go.Proofs.YtlmgojlffgkciaaGreat
open Go.RowKit
set_option maxRecDepth 100000
set_option maxHeartbeats 1000000
theorem cell_new0 (W : World) (x y : Value) (t b : Nat) (hb : b = W.heap.size) : (W.alloc (.cells #[x, y] t)).drew.cell? ⟨b, 0, none⟩ = some x := by subst hb; simp
theorem cell_new1 (W : World) (x y : Value) (t b : Nat) (hb : b = W.heap.size) : (W.alloc (.cells #[x, y] t)).drew.cell? ⟨b, 1, none⟩ = some y := by subst hb; simp
theorem strCompare (a b : ByteArray) (w : World) :
    Calls Tryz.prog 183 #[.string a, .string b] w fun e w' => e = .returned (.int .i64 (Lib.compareBytes a.data.toList b.data.toList)) ∧ w' = w := by
  go_enter Tryz.func183, Tryz.ntmps183
  go_wp2
  rw [run_callFunc_extern Tryz.func221 (by kernel_rfl) (by kernel_rfl) (by kernel_rfl) (e := Extern.BytealgCompare.compare) (by kernel_rfl), Lib.run_compareString]
  simp only [Result.andThen]
  rw [Oper.upon_value]
  go_wp2
  go_ret
  exact ⟨rfl, rfl⟩
theorem intCompare (x y : Int) (w : World) :
    Calls Tryz.prog 174 #[.int .i64 x, .int .i64 y] w fun e w' => e = .returned (.int .i64 (Lib.compareInt x y)) ∧ w' = w := by
  by_cases h1 : x < y
  · go_enter Tryz.func174, Tryz.ntmps174
    go_wp2
    go_ret
    exact ⟨by simp [Lib.compareInt, h1], rfl⟩
  · by_cases h2 : x > y
    · have h2' : y < x := h2
      go_enter Tryz.func174, Tryz.ntmps174
      go_wp2
      go_ret
      exact ⟨by simp [Lib.compareInt, h1, h2], rfl⟩
    · have h3 : x = y := by omega
      subst h3
      go_enter Tryz.func174, Tryz.ntmps174
      go_wp2
      go_ret
      exact ⟨by simp [Lib.compareInt], rfl⟩
theorem cmpOr (x y : Int) (b c : Nat) (w : World) (g0 : w.cell? ⟨b, 0, none⟩ = some (.int .i64 x)) (g1 : w.cell? ⟨b, 1, none⟩ = some (.int .i64 y)) :
    Calls Tryz.prog 182 #[.slice (some ⟨b, 0, none⟩) 2 c] w fun e w' => e = .returned (.int .i64 (if x = 0 then y else x)) ∧ w' = w := by
  go_enter Tryz.func182, Tryz.ntmps182
  go_wp2
  go_loop [8] (fun i => (i = .int .i64 0) ∨ (i = .int .i64 1 ∧ x = 0) ∨ (i = .int .i64 2 ∧ x = 0 ∧ y = 0)) (fun i => 2 - (intOf i).toNat)
  case atStart => exact Or.inl rfl
  case round =>
    rcases hrel with rfl | ⟨rfl, rfl⟩ | ⟨rfl, rfl, rfl⟩
    · by_cases h0 : x = 0
      · subst h0
        go_wp2
        go_round
        case rel => exact Or.inr (Or.inl ⟨by go_num, trivial⟩)
        case measure => simp [intOf]
      · have h0' : (x != 0) = true := by simpa using h0
        go_wp2
        go_ret
        exact ⟨rfl, rfl⟩
    · by_cases h0 : y = 0
      · subst h0
        go_wp2
        go_round
        case rel => exact Or.inr (Or.inr ⟨by go_num, trivial, trivial⟩)
        case measure => simp [intOf]
      · have h0' : (y != 0) = true := by simpa using h0
        go_wp2
        go_ret
        exact ⟨rfl, rfl⟩
    · go_wp2
      go_ret
      exact ⟨rfl, rfl⟩
def ordI (ka : ByteArray) (qa : Int) (kb : ByteArray) (qb : Int) : Int := if Lib.compareBytes ka.data.toList kb.data.toList = 0 then Lib.compareInt qb qa else Lib.compareBytes ka.data.toList kb.data.toList
theorem implOrder (ka ta kb tb : ByteArray) (qa da na qb db nb : Int) (w : World) :
    Calls Tryz.prog 145 #[.agg #[.string ka, .int .i64 qa, .int .i64 da, .string ta, .int .i64 na], .agg #[.string kb, .int .i64 qb, .int .i64 db, .string tb, .int .i64 nb]] w fun e w' => e = .returned (.int .i64 (ordI ka qa kb qb)) ∧ Below w.heap.size w w' := by
  obtain ⟨C, hC⟩ : ∃ C, C = Lib.compareBytes ka.data.toList kb.data.toList := ⟨_, rfl⟩
  obtain ⟨D, hD⟩ : ∃ D, D = Lib.compareInt qb qa := ⟨_, rfl⟩
  have c1 : ∀ w, Calls Tryz.prog 183 #[.string ka, .string kb] w fun e w' => e = .returned (.int .i64 C) ∧ w' = w := by rw [hC]; exact strCompare ka kb
  have c2 : ∀ w, Calls Tryz.prog 174 #[.int .i64 qb, .int .i64 qa] w fun e w' => e = .returned (.int .i64 D) ∧ w' = w := by rw [hD]; exact intCompare qb qa
  obtain ⟨O, hO⟩ : ∃ O, O = if C = 0 then D else C := ⟨_, rfl⟩
  have c3 : ∀ b c w, w.cell? ⟨b, 0, none⟩ = some (.int .i64 C) → w.cell? ⟨b, 1, none⟩ = some (.int .i64 D) → Calls Tryz.prog 182 #[.slice (some ⟨b, 0, none⟩) 2 c] w fun e w' => e = .returned (.int .i64 O) ∧ w' = w := by
    rw [hO]
    exact fun b c w g0 g1 => cmpOr C D b c w g0 g1
  unfold ordI
  rw [← hC, ← hD, ← hO]
  clear hC hD hO
  go_enter Tryz.func145, Tryz.ntmps145
  go_wp2_with fail
  obtain ⟨X, hX⟩ : ∃ X, X = w.heap.size := ⟨_, rfl⟩
  obtain ⟨W, hW⟩ : ∃ W, W = (w.alloc (.cells #[.string ka, .int .i64 qa, .int .i64 da, .string ta, .int .i64 na] 78)).alloc (.cells #[.string kb, .int .i64 qb, .int .i64 db, .string tb, .int .i64 nb] 78) := ⟨_, rfl⟩
  have x0 : W.cell? ⟨X, 0, none⟩ = some (.string ka) := by rw [hW, hX]; simp
  have x1 : W.cell? ⟨X, 1, none⟩ = some (.int .i64 qa) := by rw [hW, hX]; simp
  have y0 : W.cell? ⟨X + 1, 0, none⟩ = some (.string kb) := by rw [hW, hX]; simp
  have y1 : W.cell? ⟨X + 1, 1, none⟩ = some (.int .i64 qb) := by rw [hW, hX]; simp
  have kW : Below w.heap.size w W := by rw [hW]; exact ((Below.refl _ _).alloc (Nat.le_refl _) _).alloc (by simp) _
  rw [← hW, ← hX]
  clear hW hX
  have HKW : Hid (Below w.heap.size w W) := kW
  clear kW
  have k0 : Below W.heap.size W W.drew := (Below.refl _ W).drew
  have HMK : Hid (∀ w', Below W.heap.size W w' → (w'.cell? ⟨X, 0, none⟩ = some (.string ka) ∧ w'.cell? ⟨X, 1, none⟩ = some (.int .i64 qa) ∧ w'.cell? ⟨X + 1, 0, none⟩ = some (.string kb) ∧ w'.cell? ⟨X + 1, 1, none⟩ = some (.int .i64 qb) ∧ Below W.heap.size W w')) := fun w' k => ⟨cell_later k x0, cell_later k x1, cell_later k y0, cell_later k y1, k⟩
  go_region_held3 (fun w' => w'.cell? ⟨X, 0, none⟩ = some (.string ka) ∧ w'.cell? ⟨X, 1, none⟩ = some (.int .i64 qa) ∧ w'.cell? ⟨X + 1, 0, none⟩ = some (.string kb) ∧ w'.cell? ⟨X + 1, 1, none⟩ = some (.int .i64 qb) ∧ Below W.heap.size W w') (first | exact HMK.out _ k0 | exact HMK.out _ ((Below.refl _ W).alloc (Nat.le_refl _) _).drew | exact HMK.out _ (k0.alloc (Nat.le_refl _) _)) (first
    | (go_at_call 183; refine (c1 _).mono ?_; rintro e w' ⟨rfl, rfl⟩)
    | (go_at_call 174; refine (c2 _).mono ?_; rintro e w' ⟨rfl, rfl⟩)
    | (go_at_call 182; refine (c3 _ _ _ (cell_new0 _ _ _ _ _ (by simp)) (cell_new1 _ _ _ _ _ (by simp))).mono ?_; rintro e w' ⟨rfl, rfl⟩))
  go_wp2
  go_ret
  exact ⟨rfl, HKW.out.trans (((Below.refl _ W).alloc (Nat.le_refl _) _).drew.mono HKW.out.size)⟩
theorem order_less (ka kb : ByteArray) (qa qb : Int) : decide (ordI ka qa kb qb < 0) = lessB ka qa kb qb := by
  unfold lessB ordI Lib.compareInt
  rcases cmp_cases ka.data.toList kb.data.toList with ⟨h, h1, h2⟩ | ⟨h, h1, h2⟩ | ⟨h, h1, h2⟩
  · rw [h, h1]; rfl
  · have : ka = kb := by
      apply ByteArray.ext
      exact Array.toList_inj.1 h2
    subst this
    rw [h, h1]
    by_cases g : qb < qa
    · simp [g]
    · by_cases g' : qb > qa <;> simp [g, g']
  · have : ¬ ka = kb := fun e => h2 (by rw [e])
    rw [h, h1]
    simp [this]
theorem implLess (ka ta kb tb : ByteArray) (qa da na qb db nb : Int) (w : World) :
    Calls Tryz.prog 160 #[.agg #[.string ka, .int .i64 qa, .int .i64 da, .string ta, .int .i64 na], .agg #[.string kb, .int .i64 qb, .int .i64 db, .string tb, .int .i64 nb]] w fun e w' => e = .returned (.bool (lessB ka qa kb qb)) ∧ Below w.heap.size w w' := by
  go_enter Tryz.func160, Tryz.ntmps160
  go_wp2_with fail
  refine (implOrder _ _ _ _ _ _ _ _ _ _ _).mono ?_
  rintro e w1 ⟨rfl, hb1⟩
  go_wp2
  go_ret
  exact ⟨ret_bool (order_less ka kb qa qb), (((Below.refl _ _).alloc (Nat.le_refl _) _).alloc (by simp) _).trans (hb1.mono (by simp; omega))⟩
theorem less_self (a : List UInt8) : Op.bytesLess a a = false := by
  rcases cmp_cases a a with ⟨_, _, h⟩ | ⟨_, h, _⟩ | ⟨_, h, _⟩
  · exact absurd rfl h
  · exact h
  · exact h
theorem specLess (ka ta kb tb : ByteArray) (qa da na qb db nb : Int) (w : World) :
    Calls Tryz.prog 115 #[.agg #[.string ka, .int .i64 qa, .int .i64 da, .string ta, .int .i64 na], .agg #[.string kb, .int .i64 qb, .int .i64 db, .string tb, .int .i64 nb]] w fun e w' => e = .returned (.bool (lessB ka qa kb qb)) ∧ Below w.heap.size w w' := by
  by_cases he : ka = kb
  · subst he
    have hl : Op.bytesLess ka.toList ka.toList = false := less_self _
    by_cases hq : qb < qa
    · go_enter Tryz.func115, Tryz.ntmps115
      go_wp2
      go_ret
      refine ⟨ret_bool ?_, ((Below.refl _ _).alloc (Nat.le_refl _) _).alloc (by simp) _⟩
      unfold lessB
      rw [less_self]
      simp [hq]
    · go_enter Tryz.func115, Tryz.ntmps115
      go_wp2
      go_ret
      refine ⟨ret_bool ?_, ((Below.refl _ _).alloc (Nat.le_refl _) _).alloc (by simp) _⟩
      unfold lessB
      rw [less_self]
      simp [hq]
  · have hne : ¬ ka.toList = kb.toList := by
      rw [ByteArray.toList_eq, ByteArray.toList_eq]
      intro h
      exact he (ByteArray.ext (Array.toList_inj.1 h))
    cases hl : Op.bytesLess ka.toList kb.toList with
    | true =>
      go_enter Tryz.func115, Tryz.ntmps115
      go_wp2
      go_ret
      refine ⟨ret_bool ?_, ((Below.refl _ _).alloc (Nat.le_refl _) _).alloc (by simp) _⟩
      unfold lessB
      rw [ByteArray.toList_eq, ByteArray.toList_eq] at hl
      simp [hl]
    | false =>
      go_enter Tryz.func115, Tryz.ntmps115
      go_wp2
      go_ret
      refine ⟨ret_bool ?_, ((Below.refl _ _).alloc (Nat.le_refl _) _).alloc (by simp) _⟩
      unfold lessB
      rw [ByteArray.toList_eq, ByteArray.toList_eq] at hl
      simp [hl, he]
end Go.Proofs.YtlmgojlffgkciaaGreat

namespace Go.Proofs.YtlmgojlffgkciaaGreat
open Go.RowKit
set_option maxHeartbeats 400000 in
theorem specBit (n : Nat) (w : World) (hn : n ≤ 16) :
    Calls Tryz.prog 199 #[.int .i64 n] w fun e w' => e = .returned (.int .i64 ((2 ^ n : Nat) : Int)) ∧ w' = w := by
  go_enter Tryz.func199, Tryz.ntmps199
  go_wp2
  go_loop [3, 4] (fun o i => ∃ k p : Nat, k ≤ n ∧ i = .int .i64 k ∧ o = .int .i64 p ∧ p = 2 ^ k) (fun _ i => n - (intOf i).toNat)
  case atStart => exact ⟨0, 1, Nat.zero_le _, rfl, rfl, rfl⟩
  case round =>
    obtain ⟨k, p, hk, rfl, rfl, hp⟩ := hrel
    have HP : Hid (p = 2 ^ k) := hp
    have hp2 : p ≤ 65536 := by rw [hp]; exact Nat.pow_le_pow_right (n := 2) (by omega) (by omega : k ≤ 16)
    clear hp
    by_cases hlt : k < n
    · go_wp2
      go_round
      case rel => exact ⟨k + 1, p * 2, by omega, by go_num, by go_num, by rw [HP.out, Nat.pow_succ]⟩
      case measure => simp [intOf]; omega
    · go_wp2
      go_ret
      have : k = n := by omega
      subst this
      exact ⟨ret_int (by have := HP.out; subst this; simp), rfl⟩
set_option maxHeartbeats 1000000 in
theorem specOr (a b : Nat) (w : World) (ha : a < 65536) (hb : b < 65536) :
    Calls Tryz.prog 176 #[.int .i64 a, .int .i64 b] w fun e w' => e = .returned (.int .i64 ((a ||| b : Nat) : Int)) ∧ w' = w := by
  obtain ⟨c, hc⟩ : ∃ c, c = a ||| b := ⟨_, rfl⟩
  have hcs : c < 65536 := by rw [hc]; exact or_small ha hb
  have HST : Hid (∀ i, c / 2 ^ i = c / 2 ^ (i + 1) * 2 + (if a / 2 ^ i % 2 = 1 ∨ b / 2 ^ i % 2 = 1 then 1 else 0)) := by rw [hc]; exact or_step a b
  rw [← hc]
  clear hc
  go_enter Tryz.func176, Tryz.ntmps176
  go_wp2
  go_loop [5, 6] (fun o i => ∃ (k p : Nat) (x : Int), k ≤ 16 ∧ x = (k : Int) - 1 ∧ i = .int .i64 x ∧ o = .int .i64 p ∧ p = c / 2 ^ k) (fun _ i => (intOf i + 1).toNat)
  case atStart => exact ⟨16, 0, 15, Nat.le_refl _, rfl, rfl, rfl, (Nat.div_eq_of_lt hcs).symm⟩
  case round =>
    obtain ⟨k, p, x, hk, hx, rfl, rfl, hp⟩ := hrel
    cases k with
    | zero =>
      have hp' : p = c := by simpa using hp
      subst hp'
      have hx' : x = -1 := by omega
      subst hx'
      clear hx hp
      go_wp2
      go_ret
      exact ⟨rfl, rfl⟩
    | succ j =>
      obtain ⟨z, hz⟩ : ∃ z : Nat, z = 2 ^ j := ⟨_, rfl⟩
      have hz1 : 0 < z := by rw [hz]; exact Nat.two_pow_pos j
      have hp2 : p ≤ 65536 := by rw [hp]; exact Nat.le_trans (Nat.div_le_self _ _) (by omega)
      have HB : Hid (∀ w, Calls Tryz.prog 199 #[.int .i64 j] w fun e w' => e = .returned (.int .i64 (z : Int)) ∧ w' = w) := by rw [hz]; exact fun w => specBit j w (by omega)
      have hst := HST.out j
      rw [← hp, ← hz] at hst
      have HS : Hid (c / z = p * 2 + (if a / z % 2 = 1 ∨ b / z % 2 = 1 then 1 else 0)) := hst
      have HZ : Hid (z = 2 ^ j) := hz
      clear hst hp hz
      have hx' : x = (j : Int) := by omega
      subst hx'
      clear hx
      obtain ⟨qa, hqa⟩ : ∃ q : Nat, q = a / z := ⟨_, rfl⟩
      obtain ⟨qb, hqb⟩ : ∃ q : Nat, q = b / z := ⟨_, rfl⟩
      have eA : (a : Int) / (z : Int) = (qa : Int) := by rw [hqa]; simp
      have eB : (b : Int) / (z : Int) = (qb : Int) := by rw [hqb]; simp
      have la : qa < 65536 := by rw [hqa]; exact Nat.lt_of_le_of_lt (Nat.div_le_self _ _) ha
      have lb : qb < 65536 := by rw [hqb]; exact Nat.lt_of_le_of_lt (Nat.div_le_self _ _) hb
      rw [← hqa, ← hqb] at HS
      clear hqa hqb
      by_cases h1 : qa % 2 = 1
      · have h1' : (qa : Int) % 2 = 1 := by omega
        go_wp2_with (go_at_call 199; refine (HB.out _).mono ?_; rintro e w' ⟨rfl, rfl⟩)
        exact ⟨⟨j, p * 2 + 1, (j : Int) - 1, by omega, rfl, rfl, by simp, by rw [← HZ.out, HS.out, if_pos (Or.inl h1)]⟩, by simp [intOf]⟩
      · have h1' : ¬ (qa : Int) % 2 = 1 := by omega
        by_cases h2 : qb % 2 = 1
        · have h2' : (qb : Int) % 2 = 1 := by omega
          go_wp2_with (go_at_call 199; refine (HB.out _).mono ?_; rintro e w' ⟨rfl, rfl⟩)
          exact ⟨⟨j, p * 2 + 1, (j : Int) - 1, by omega, rfl, rfl, by simp, by rw [← HZ.out, HS.out, if_pos (Or.inr h2)]⟩, by simp [intOf]⟩
        · have h2' : ((qb : Int) % 2 == 1) = false := by rw [beq_eq_false_iff_ne]; omega
          have h1b : ((qa : Int) % 2 == 1) = false := by rw [beq_eq_false_iff_ne]; omega
          go_wp2_with (go_at_call 199; refine (HB.out _).mono ?_; rintro e w' ⟨rfl, rfl⟩)
          exact ⟨⟨j, p * 2, (j : Int) - 1, by omega, rfl, rfl, by simp, by rw [← HZ.out, HS.out, if_neg (fun g => g.elim h1 h2)]; rfl⟩, by simp [intOf]⟩
set_option maxHeartbeats 1000000 in
theorem specMask (s : ByteArray) (w : World) (hs : s.size ≤ maxLen) :
    Calls Tryz.prog 177 #[.string s] w fun e w' => e = .returned (.int .i64 ((maskK s : Nat) : Int)) ∧ w' = w := by
  unfold maxLen at hs
  go_enter Tryz.func177, Tryz.ntmps177
  go_wp2
  go_loop [3, 4] (fun o i => ∃ k h : Nat, k ≤ s.size ∧ i = .int .i64 k ∧ o = .int .i64 h ∧ h < 65521 ∧ hashN (s.data.toList.take k) = h) (fun _ i => s.size - (intOf i).toNat)
  case atStart => exact ⟨0, 7, Nat.zero_le _, rfl, rfl, by omega, rfl⟩
  case round =>
    obtain ⟨k, h, hk, rfl, rfl, hh, hh2⟩ := hrel
    have HH : Hid (hashN (s.data.toList.take k) = h) := hh2
    clear hh2
    by_cases hlt : k < s.size
    · have HC : Hid (hashN (s.data.toList.take (k + 1)) = (31 * h + (s[k]).toNat) % 65521) := by
        show hashN (s.data.toList.take (k + 1)) = (31 * h + (s[k]).toNat) % 65521
        rw [hash_step s k hlt, HH.out]; rfl
      have hc : (s[k]).toNat < 256 := (s[k]).toNat_lt
      go_wp2
      go_round
      case rel => exact ⟨k + 1, (31 * h + (s[k]).toNat) % 65521, by omega, by go_num, by go_num, by omega, HC.out⟩
      case measure => simp [intOf]; omega
    · have hke : k = s.size := by omega
      have HE : Hid (maskK s = 2 ^ (h % 16) ||| 2 ^ (h / 16 % 16)) := by
        show maskK s = _
        have := HH.out
        rw [List.take_of_length_le (by simp [hke])] at this
        unfold maskK markN
        rw [this]
      obtain ⟨x, hx⟩ : ∃ x, x = h % 16 := ⟨_, rfl⟩
      obtain ⟨y, hy⟩ : ∃ y, y = h / 16 % 16 := ⟨_, rfl⟩
      rw [← hx, ← hy] at HE
      have hx1 : x < 16 := by omega
      have hy1 : y < 16 := by omega
      have ex : (h : Int) % 16 = (x : Int) := by omega
      have ey : (h : Int) / 16 % 16 = (y : Int) := by omega
      obtain ⟨px, hpx⟩ : ∃ p : Nat, p = 2 ^ x := ⟨_, rfl⟩
      obtain ⟨py, hpy⟩ : ∃ p : Nat, p = 2 ^ y := ⟨_, rfl⟩
      have CX : Hid (∀ w, Calls Tryz.prog 199 #[.int .i64 x] w fun e w' => e = .returned (.int .i64 (px : Int)) ∧ w' = w) := by rw [hpx]; exact fun w => specBit x w (by omega)
      have CY : Hid (∀ w, Calls Tryz.prog 199 #[.int .i64 y] w fun e w' => e = .returned (.int .i64 (py : Int)) ∧ w' = w) := by rw [hpy]; exact fun w => specBit y w (by omega)
      have hpx1 : px < 65536 := by rw [hpx]; exact pow_small hx1
      have hpy1 : py < 65536 := by rw [hpy]; exact pow_small hy1
      rw [← hpx, ← hpy] at HE
      clear hx hy hpx hpy
      have COR : Hid (∀ w, Calls Tryz.prog 176 #[.int .i64 px, .int .i64 py] w fun e w' => e = .returned (.int .i64 ((px ||| py : Nat) : Int)) ∧ w' = w) := fun w => specOr px py w hpx1 hpy1
      go_wp2_with fail
      refine (CX.out _).mono ?_
      rintro e w' ⟨rfl, rfl⟩
      go_wp2_with fail
      refine (CY.out _).mono ?_
      rintro e w' ⟨rfl, rfl⟩
      go_wp2_with fail
      refine (COR.out _).mono ?_
      rintro e w' ⟨rfl, rfl⟩
      go_wp2
      go_ret
      exact ⟨ret_int (by rw [HE.out]), rfl⟩
theorem bits_or (a b : Nat) (ha : a < 65536) (hb : b < 65536) : bits .or .i64 (a : Int) (b : Int) = ((a ||| b : Nat) : Int) := by
  have hc := or_small ha hb
  have e : (BitVec.ofInt 64 (a : Int) ||| BitVec.ofInt 64 (b : Int)).toNat = a ||| b := by
    simp [BitVec.toNat_or]
    rw [Nat.mod_eq_of_lt (by omega), Nat.mod_eq_of_lt (by omega)]
  have e2 : IntKind.i64.wrap (((a ||| b : Nat)) : Int) = ((a ||| b : Nat) : Int) := by
    rw [IntWalk.i64_left]
    generalize a ||| b = y at hc
    unfold wrap64; omega
  show IntKind.i64.wrap ((BitVec.ofInt 64 (a : Int) ||| BitVec.ofInt 64 (b : Int)).toNat : Int) = _
  rw [e, e2]
theorem pow_wrap (x : Nat) (hx : x < 16) : wrap64 (2 ^ x) = ((2 ^ x : Nat) : Int) := by
  have hp := pow_small hx
  have : (2 ^ x : Int) = ((2 ^ x : Nat) : Int) := by simp
  rw [this]
  generalize 2 ^ x = y at hp
  unfold wrap64; omega
set_option maxHeartbeats 1000000 in
theorem implMask (s : ByteArray) (w : World) (hs : s.size ≤ maxLen) :
    Calls Tryz.prog 184 #[.string s] w fun e w' => e = .returned (.int .i64 ((maskK s : Nat) : Int)) ∧ Below w.heap.size w w' := by
  unfold maxLen at hs
  go_enter Tryz.func184, Tryz.ntmps184
  go_wp2
  go_loop [3, 7] (fun o i => ∃ k h : Nat, k ≤ s.size ∧ i = .int .i64 k ∧ o = .int .i64 h ∧ h < 65521 ∧ hashN (s.data.toList.take k) = h) (fun _ i => s.size - (intOf i).toNat)
  case atStart => exact ⟨0, 7, Nat.zero_le _, rfl, rfl, by omega, rfl⟩
  case round =>
    obtain ⟨k, h, hk, rfl, rfl, hh, hh2⟩ := hrel
    have HH : Hid (hashN (s.data.toList.take k) = h) := hh2
    clear hh2
    by_cases hlt : k < s.size
    · have HC : Hid (hashN (s.data.toList.take (k + 1)) = (31 * h + (s[k]).toNat) % 65521) := by
        show hashN (s.data.toList.take (k + 1)) = (31 * h + (s[k]).toNat) % 65521
        rw [hash_step s k hlt, HH.out]; rfl
      have hc : (s[k]).toNat < 256 := (s[k]).toNat_lt
      go_wp2
      go_round
      case rel => exact ⟨k + 1, (31 * h + (s[k]).toNat) % 65521, by omega, by go_num, by go_num, by omega, HC.out⟩
      case measure => simp [intOf]; omega
    · have hke : k = s.size := by omega
      have HE : Hid (maskK s = 2 ^ (h % 16) ||| 2 ^ (h / 16 % 16)) := by
        show maskK s = _
        have := HH.out
        rw [List.take_of_length_le (by simp [hke])] at this
        unfold maskK markN
        rw [this]
      obtain ⟨x, hx⟩ : ∃ x, x = h % 16 := ⟨_, rfl⟩
      obtain ⟨y, hy⟩ : ∃ y, y = h / 16 % 16 := ⟨_, rfl⟩
      rw [← hx, ← hy] at HE
      have hx1 : x < 16 := by omega
      have hy1 : y < 16 := by omega
      have ex : (h : Int) % 16 = (x : Int) := by omega
      have ey : (h : Int) / 16 % 16 = (y : Int) := by omega
      clear hx hy
      go_wp2_with fail
      go_quiet (fail)
      go_wp2
      go_ret
      refine ⟨ret_int ?_, below_drewN (Below.refl _ _) _⟩
      rw [pow_wrap x hx1, pow_wrap y hy1, bits_or _ _ (pow_small hx1) (pow_small hy1), HE.out]
end Go.Proofs.YtlmgojlffgkciaaGreat
