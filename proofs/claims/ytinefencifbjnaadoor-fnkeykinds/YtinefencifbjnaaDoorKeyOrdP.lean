/-
  Plain: the order of the keys of balances and of numbers; no statement of the program stands here.
-/
import Derived.Test.YtinefencifbjnaaDoorKeyP
import Derived.Test.YtinefencifbjnaaDoorLessP
import Derived.Test.YtinefencifbjnaaDoorLessQ
import Derived.Test.YtinefencifbjnaaDoorDec
namespace Go.Proofs.YtinefencifbjnaaDoor
open Go.RowKit

/-- The key of a balance, as a list of bytes. -/
def balL (s : ByteArray) (c : Int) : List UInt8 := 98 :: 47 :: (s.data.toList ++ [47, dig c])
/-- The key of a number, as a list of bytes. -/
def numL (x : UInt8) (n : Int) : List UInt8 := [x, 47, dig (n / 10), dig (n % 10)]

theorem dig_lt {c d : Int} (hc0 : 0 ≤ c) (hc : c ≤ 9) (hd0 : 0 ≤ d) (hd : d ≤ 9) : decide (dig c < dig d) = decide (c < d) := by
  have h1 := dig_nat c hc0 hc
  have h2 := dig_nat d hd0 hd
  rw [Bool.eq_iff_iff]
  simp only [decide_eq_true_eq, UInt8.lt_iff_toNat_lt]
  omega
theorem dig_inj {c d : Int} (hc0 : 0 ≤ c) (hc : c ≤ 9) (hd0 : 0 ≤ d) (hd : d ≤ 9) : dig c = dig d ↔ c = d := by
  have h1 := dig_nat c hc0 hc
  have h2 := dig_nat d hd0 hd
  constructor
  · intro h; rw [h] at h1; omega
  · rintro rfl; rfl

theorem tail_less {c d : Int} (hc0 : 0 ≤ c) (hc : c ≤ 9) (hd0 : 0 ≤ d) (hd : d ≤ 9) : ∀ (a b : List UInt8), a.all lowB = true → b.all lowB = true →
    Op.bytesLess (a ++ [47, dig c]) (b ++ [47, dig d]) = (Op.bytesLess a b || (decide (a = b) && decide (c < d)))
  | [], [], _, _ => by
    have := dig_lt hc0 hc hd0 hd
    simp [Op.bytesLess, this]
  | [], y :: b, _, hb => by
    have hy : lowB y = true := by simp at hb; exact hb.1
    have := (lowB_true hy).1
    have h1 : (47 : UInt8) < y := by rw [UInt8.lt_iff_toNat_lt]; show 47 < y.toNat; omega
    simp [Op.bytesLess, h1]
  | x :: a, [], ha, _ => by
    have hx : lowB x = true := by simp at ha; exact ha.1
    have := (lowB_true hx).1
    have h1 : ¬ x < (47 : UInt8) := by rw [UInt8.lt_iff_toNat_lt]; show ¬ x.toNat < 47; omega
    have h2 : ¬ x = (47 : UInt8) := by intro e; rw [e] at this; simp at this
    simp [Op.bytesLess, h1, h2]
  | x :: a, y :: b, ha, hb => by
    have ih := tail_less hc0 hc hd0 hd a b (by simp at ha; simpa using ha.2) (by simp at hb; simpa using hb.2)
    show Op.bytesLess (x :: (a ++ [47, dig c])) (y :: (b ++ [47, dig d])) = _
    unfold Op.bytesLess
    rw [ih]
    by_cases h1 : x < y
    · simp [h1]
    · by_cases h2 : x = y
      · subst h2
        simp [h1]
      · have h3 : (x == y) = false := by simpa using h2
        simp [h1, h2, h3]
theorem tail_eq {c d : Int} (hc0 : 0 ≤ c) (hc : c ≤ 9) (hd0 : 0 ≤ d) (hd : d ≤ 9) {a b : List UInt8} : (a ++ [47, dig c] = b ++ [47, dig d]) ↔ (a = b ∧ c = d) := by
  constructor
  · intro h
    have h1 : a.length = b.length := by have := congrArg List.length h; simpa using this
    obtain ⟨h2, h3⟩ := List.append_inj h h1
    have h4 : dig c = dig d := by simpa using h3
    exact ⟨h2, (dig_inj hc0 hc hd0 hd).1 h4⟩
  · rintro ⟨rfl, rfl⟩; rfl

theorem bal_less {a b : ByteArray} {c d : Int} (ha : acctB a = true) (hb : acctB b = true) (hc0 : 1 ≤ c) (hc : c ≤ 3) (hd0 : 1 ≤ d) (hd : d ≤ 3) :
    Op.bytesLess (balL a c) (balL b d) = (Op.bytesLess a.data.toList b.data.toList || (decide (a = b) && decide (c < d))) := by
  have la : a.data.toList.all lowB = true := by unfold acctB at ha; simp only [Bool.and_eq_true] at ha; exact ha.2.2
  have lb : b.data.toList.all lowB = true := by unfold acctB at hb; simp only [Bool.and_eq_true] at hb; exact hb.2.2
  have h := tail_less (c := c) (d := d) (by omega) (by omega) (by omega) (by omega) _ _ la lb
  have e : decide (a = b) = decide (a.data.toList = b.data.toList) := by
    rw [Bool.eq_iff_iff]
    simp only [decide_eq_true_eq]
    exact ⟨fun h => by rw [h], fun h => ByteArray.ext (Array.toList_inj.1 h)⟩
  rw [e, ← h]
  simp [balL, Op.bytesLess]
theorem bal_eq {a b : ByteArray} {c d : Int} (hc0 : 1 ≤ c) (hc : c ≤ 3) (hd0 : 1 ≤ d) (hd : d ≤ 3) : balL a c = balL b d ↔ (a = b ∧ c = d) := by
  unfold balL
  simp only [List.cons.injEq, true_and]
  rw [tail_eq (by omega) (by omega) (by omega) (by omega)]
  exact ⟨fun ⟨h1, h2⟩ => ⟨ByteArray.ext (Array.toList_inj.1 h1), h2⟩, fun ⟨h1, h2⟩ => ⟨by rw [h1], h2⟩⟩
theorem keyC_dig {n : Int} (h0 : 0 ≤ n) (h1 : n ≤ 9) : keyC (dig n) = true := by
  have := dig_nat n h0 h1
  unfold keyC
  simp
  omega
theorem keyC_low {b : UInt8} (h : lowB b = true) : keyC b = true := by
  have := lowB_true h
  unfold keyC
  simp
  omega
theorem keyB_bal {a : ByteArray} {c : Int} (ha : acctB a = true) (hc0 : 1 ≤ c) (hc : c ≤ 3) (k : ByteArray) (hk : k.data.toList = balL a c) : keyB k = true := by
  have la : a.data.toList.all lowB = true := by unfold acctB at ha; simp only [Bool.and_eq_true] at ha; exact ha.2.2
  have sz : a.size ≤ 4 := by unfold acctB at ha; simp only [Bool.and_eq_true, decide_eq_true_eq] at ha; exact ha.2.1
  have hs : k.size = a.size + 4 := by
    have h1 : k.data.toList.length = k.size := by simp
    rw [← h1, hk]
    simp [balL]
  have hall : k.data.toList.all keyC = true := by
    rw [hk]
    unfold balL
    simp only [List.all_cons, List.all_append, List.all_nil, Bool.and_true]
    have h1 : a.data.toList.all keyC = true := by
      rw [List.all_eq_true] at la ⊢
      exact fun x hx => keyC_low (la x hx)
    rw [h1, keyC_dig (by omega) (by omega)]
    decide
  unfold keyB
  rw [hall]
  simp
  omega
theorem keyB_num {x : UInt8} {n : Int} (hx : keyC x = true) (h0 : 0 ≤ n) (h1 : n ≤ 99) (k : ByteArray) (hk : k.data.toList = numL x n) : keyB k = true := by
  have hs : k.size = 4 := by
    have h1 : k.data.toList.length = k.size := by simp
    rw [← h1, hk]
    rfl
  have hall : k.data.toList.all keyC = true := by
    rw [hk]
    unfold numL
    simp only [List.all_cons, List.all_nil, Bool.and_true]
    rw [hx, keyC_dig (by omega) (by omega), keyC_dig (by omega) (by omega)]
    decide
  unfold keyB
  rw [hall, hs]
  decide
theorem num_less {x : UInt8} {m n : Int} (hm0 : 0 ≤ m) (hm : m ≤ 99) (hn0 : 0 ≤ n) (hn : n ≤ 99) : Op.bytesLess (numL x m) (numL x n) = decide (m < n) := by
  have h1 := dig_lt (c := m / 10) (d := n / 10) (by omega) (by omega) (by omega) (by omega)
  have h2 := dig_lt (c := m % 10) (d := n % 10) (by omega) (by omega) (by omega) (by omega)
  have h3 := dig_inj (c := m / 10) (d := n / 10) (by omega) (by omega) (by omega) (by omega)
  have e : (dig (m / 10) == dig (n / 10)) = decide (m / 10 = n / 10) := by
    rw [Bool.eq_iff_iff]; simp only [beq_iff_eq, decide_eq_true_eq]; exact h3
  simp only [numL, Op.bytesLess, UInt8.lt_irrefl, decide_false, beq_self_eq_true, Bool.false_or, Bool.true_and, h1, h2, e, Bool.and_false, Bool.or_false]
  rw [Bool.eq_iff_iff]
  simp only [Bool.or_eq_true, Bool.and_eq_true, decide_eq_true_eq]
  omega

end Go.Proofs.YtinefencifbjnaaDoor
