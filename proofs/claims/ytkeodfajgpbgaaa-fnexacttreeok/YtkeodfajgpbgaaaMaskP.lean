/-
  Plain: the marks of keys, entries in order, and runs; no statement of the program stands here.
-/
import Derived.Test.YtkeodfajgpbgaaaLessQ
import Derived.WalkKit
namespace Go.Proofs.Ytkeodfajgpbgaaa
open Go.RowKit

def hstep (h : Nat) (b : UInt8) : Nat := (31 * h + b.toNat) % 65521
def hashN (l : List UInt8) : Nat := l.foldl hstep 7
def markN (h : Nat) : Nat := 2 ^ (h % 16) ||| 2 ^ (h / 16 % 16)
/-- The marks of a key. -/
def maskK (s : ByteArray) : Nat := markN (hashN s.data.toList)

theorem hash_step (s : ByteArray) (k : Nat) (h : k < s.size) : hashN (s.data.toList.take (k + 1)) = hstep (hashN (s.data.toList.take k)) s[k] := by
  rw [take_snoc_b s k h]; simp [hashN]
theorem hstep_lt (h : Nat) (b : UInt8) : hstep h b < 65521 := Nat.mod_lt _ (by omega)
theorem hash_lt (l : List UInt8) : hashN l < 65521 := by
  unfold hashN
  have : ∀ (l : List UInt8) (h : Nat), h < 65521 → l.foldl hstep h < 65521 := by
    intro l
    induction l with
    | nil => intro h hh; exact hh
    | cons a r ih => intro h _; exact ih _ (hstep_lt h a)
  exact this l 7 (by omega)
theorem pow_small {a : Nat} (h : a < 16) : 2 ^ a < 65536 := by
  have : 2 ^ a < 2 ^ 16 := Nat.pow_lt_pow_right (by omega) h
  exact this
theorem or_small {a b : Nat} (ha : a < 65536) (hb : b < 65536) : a ||| b < 65536 := Nat.or_lt_two_pow (n := 16) ha hb
theorem markN_lt (h : Nat) : markN h < 65536 := or_small (pow_small (Nat.mod_lt _ (by omega))) (pow_small (Nat.mod_lt _ (by omega)))
theorem maskK_lt (s : ByteArray) : maskK s < 65536 := markN_lt _

theorem or_step (a b i : Nat) : (a ||| b) / 2 ^ i = (a ||| b) / 2 ^ (i + 1) * 2 + (if a / 2 ^ i % 2 = 1 ∨ b / 2 ^ i % 2 = 1 then 1 else 0) := by
  have h1 : (a ||| b).testBit i = (a.testBit i || b.testBit i) := Nat.testBit_or ..
  rw [Nat.testBit_eq_decide_div_mod_eq, Nat.testBit_eq_decide_div_mod_eq, Nat.testBit_eq_decide_div_mod_eq] at h1
  have h2 : (a ||| b) / 2 ^ (i + 1) = (a ||| b) / 2 ^ i / 2 := by rw [Nat.pow_succ, Nat.div_div_eq_div_mul]
  rw [h2]
  by_cases h3 : a / 2 ^ i % 2 = 1 ∨ b / 2 ^ i % 2 = 1
  · rw [if_pos h3]
    have : (a ||| b) / 2 ^ i % 2 = 1 := by
      have : decide ((a ||| b) / 2 ^ i % 2 = 1) = true := by rw [h1]; simpa using h3
      exact of_decide_eq_true this
    omega
  · rw [if_neg h3]
    have : ¬ (a ||| b) / 2 ^ i % 2 = 1 := by
      have : decide ((a ||| b) / 2 ^ i % 2 = 1) = false := by
        rw [h1]
        have h4 : ¬ a / 2 ^ i % 2 = 1 := fun e => h3 (Or.inl e)
        have h5 : ¬ b / 2 ^ i % 2 = 1 := fun e => h3 (Or.inr e)
        simp [h4, h5]
      exact of_decide_eq_false this
    omega
theorem or_top {a b : Nat} (ha : a < 65536) (hb : b < 65536) : (a ||| b) / 2 ^ 16 = 0 := Nat.div_eq_of_lt (or_small ha hb)

/-- The marks of all keys. -/
def maskL (L : List EntD) : Nat := L.foldl (fun m e => m ||| maskK e.1) 0
theorem maskL_snoc {L : List EntD} {k : Nat} {e : EntD} (h : L[k]? = some e) : maskL (L.take (k + 1)) = maskL (L.take k) ||| maskK e.1 := by
  rw [List.take_add_one, h]; simp [maskL]
theorem maskL_lt (L : List EntD) : maskL L < 65536 := by
  have : ∀ (L : List EntD) (m : Nat), m < 65536 → L.foldl (fun m e => m ||| maskK e.1) m < 65536 := by
    intro L
    induction L with
    | nil => intro m h; exact h
    | cons a r ih => intro m h; exact ih _ (or_small h (maskK_lt _))
  exact this L 0 (by omega)

/-- Entry number j is ok, and stands behind the one ahead. -/
def okAt (L : List EntD) (j : Nat) : Bool :=
  match L[j]? with
  | none => true
  | some e => entB e.1 e.2.1 e.2.2.1 e.2.2.2.1 e.2.2.2.2 && (match j with | 0 => true | i + 1 => match L[i]? with | none => true | some d => lessB d.1 d.2.1 e.1 e.2.1)
def rightB (L : List EntD) : Bool := (List.range L.length).all (okAt L)
def RightTo (L : List EntD) (k : Nat) : Prop := ∀ j, j < k → okAt L j = true
theorem right_of {L : List EntD} {k : Nat} (h : RightTo L k) (hk : L.length ≤ k) : rightB L = true := by
  unfold rightB
  rw [List.all_eq_true]
  intro j hj
  exact h j (by have := List.mem_range.1 hj; omega)
theorem right_no {L : List EntD} {k : Nat} (hk : k < L.length) (h : okAt L k = false) : rightB L = false := by
  rw [Bool.eq_false_iff]
  intro h1
  unfold rightB at h1
  rw [List.all_eq_true] at h1
  rw [h1 k (List.mem_range.2 hk)] at h
  cases h
theorem right_snoc {L : List EntD} {k : Nat} (h : RightTo L k) (hk : okAt L k = true) : RightTo L (k + 1) := by
  intro j hj
  by_cases e : j = k
  · rw [e]; exact hk
  · exact h j (by omega)
theorem okAt_zero {L : List EntD} {e : EntD} (h : L[0]? = some e) : okAt L 0 = entB e.1 e.2.1 e.2.2.1 e.2.2.2.1 e.2.2.2.2 := by
  unfold okAt; rw [h]; simp
theorem okAt_succ {L : List EntD} {i : Nat} {d e : EntD} (h : L[i + 1]? = some e) (g : L[i]? = some d) : okAt L (i + 1) = (entB e.1 e.2.1 e.2.2.1 e.2.2.2.1 e.2.2.2.2 && lessB d.1 d.2.1 e.1 e.2.1) := by
  unfold okAt; simp only [h, g]
theorem okAt_ent {L : List EntD} {k : Nat} {e : EntD} (h : L[k]? = some e) (g : entB e.1 e.2.1 e.2.2.1 e.2.2.2.1 e.2.2.2.2 = false) : okAt L k = false := by
  unfold okAt; rw [h]; simp [g]

/-- A run that is right. -/
def runB (L : List EntD) (m : Int) : Bool := decide (1 ≤ L.length) && (decide (L.length ≤ 150) && (rightB L && decide (m = maskL L)))

theorem runB_few {L : List EntD} {m : Int} (h : L.length < 1) : runB L m = false := by
  have : decide (1 ≤ L.length) = false := decide_eq_false (by omega)
  simp [runB, this]
theorem runB_many {L : List EntD} {m : Int} (h : 150 < L.length) : runB L m = false := by
  have : decide (L.length ≤ 150) = false := decide_eq_false (by omega)
  simp [runB, this]
theorem runB_right {L : List EntD} {m : Int} (h : rightB L = false) : runB L m = false := by simp [runB, h]
theorem runB_mask {L : List EntD} {m : Int} (h1 : 1 ≤ L.length) (h2 : L.length ≤ 150) (h3 : rightB L = true) : runB L m = decide (m = maskL L) := by
  simp [runB, h1, h2, h3]
end Go.Proofs.Ytkeodfajgpbgaaa
