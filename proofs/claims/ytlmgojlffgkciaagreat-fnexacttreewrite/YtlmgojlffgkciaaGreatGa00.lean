/-
  Plain functions on lists and numbers, out of which what the program answers is told: no statement of the program stands here.
  Plain functions on keys, entries and cells: no statement of the program stands here.
  Plain: the order of texts by their bytes, and of entries; no statement of the program stands here.
  Plain: the order of entries is an order; no statement of the program stands here.
  Plain: the marks of keys, entries in order, and runs; no statement of the program stands here.
  Plain: entries in order, what a run may have and what is found in it; no statement of the program stands here.
  What a call leaves as it was, cell by cell; no statement of the program stands here.
  The laws' own helpers over one entry (size, copy), by walks of their Go text; and how an entry that came in is opened.
  How a list of entries lies in memory; what that keeps; and how one that came in is opened.
  The laws' own helpers over a list of entries (its size, its copy, that two are the same), by walks of their Go text.
-/
import Derived.WalkKit
import Derived.Lib.Bytealg
import Derived.Lib.Small
import Derived.Lib.Strings
import Derived.WalkSpells
import Derived.WalkLawsBesides
import Derived.Test.YtlmgojlffgkciaaGreatProg
import Derived.ProofKit
import Derived.Lib.SmallJoins
import Derived.Deep.Slices
import Derived.Deep.Strs
import Derived.Deep.RegionWith
import Derived.Deep.LoopGhost
namespace Go.Proofs.YtlmgojlffgkciaaGreat
open Go.RowKit
theorem take_snoc_b (s : ByteArray) (k : Nat) (h : k < s.size) : s.data.toList.take (k + 1) = s.data.toList.take k ++ [s[k]] := by
  rw [List.take_succ_eq_append_getElem (by simpa using h)]; rfl
theorem ret_bool {a b : Bool} (h : a = b) : Ending.returned (.bool a) = .returned (.bool b) := by rw [h]
theorem ret_int {k : IntKind} {a b : Int} (h : a = b) : Ending.returned (.int k a) = .returned (.int k b) := by rw [h]
end Go.Proofs.YtlmgojlffgkciaaGreat

namespace Go.Proofs.YtlmgojlffgkciaaGreat
open Go.RowKit
def keyC (b : UInt8) : Bool := (decide (97 ≤ b.toNat) && decide (b.toNat ≤ 122)) || (decide (47 ≤ b.toNat) && decide (b.toNat ≤ 57))
def keyB (s : ByteArray) : Bool := decide (1 ≤ s.size) && (decide (s.size ≤ 8) && s.data.toList.all keyC)
theorem keyC_true {b : UInt8} (h : keyC b = true) : (97 ≤ (b.toNat : Int) ∧ (b.toNat : Int) ≤ 122) ∨ (47 ≤ (b.toNat : Int) ∧ (b.toNat : Int) ≤ 57) := by
  simp [keyC] at h; omega
theorem keyC_false {b : UInt8} (h : keyC b = false) : (b.toNat : Int) < 47 ∨ (57 < (b.toNat : Int) ∧ (b.toNat : Int) < 97) ∨ 122 < (b.toNat : Int) := by
  simp [keyC] at h
  by_cases h1 : b.toNat < 47
  · exact Or.inl (by omega)
  · by_cases h2 : b.toNat < 97
    · exact Or.inr (Or.inl (by omega))
    · exact Or.inr (Or.inr (by omega))
theorem key_take_snoc (s : ByteArray) (k : Nat) (h : k < s.size) (ha : (s.data.toList.take k).all keyC = true) (hb : keyC s[k] = true) : (s.data.toList.take (k + 1)).all keyC = true := by
  rw [take_snoc_b s k h, List.all_append, ha]; simp [hb]
theorem key_false_of (s : ByteArray) (k : Nat) (h : k < s.size) (hb : keyC s[k] = false) : keyB s = false := by
  have : s.data.toList.all keyC = false := by
    rw [Bool.eq_false_iff]
    intro hall
    rw [List.all_eq_true] at hall
    have hm : s[k] ∈ s.data.toList := by
      have : s.data.toList[k]'(by simpa using h) = s[k] := rfl
      rw [← this]; exact List.getElem_mem _
    rw [hall _ hm] at hb
    cases hb
  unfold keyB; rw [this]; simp
theorem keyB_small (s : ByteArray) (h : s.size < 1) : keyB s = false := by
  unfold keyB; have : decide (1 ≤ s.size) = false := decide_eq_false (by omega)
  rw [this]; rfl
theorem keyB_big (s : ByteArray) (h : 8 < s.size) : keyB s = false := by
  unfold keyB; have : decide (s.size ≤ 8) = false := decide_eq_false (by omega)
  rw [this]; simp
theorem keyB_of_all (s : ByteArray) (k : Nat) (hk : s.size ≤ k) (ha : (s.data.toList.take k).all keyC = true) : keyB s = (decide (1 ≤ s.size) && decide (s.size ≤ 8)) := by
  unfold keyB
  rw [List.take_of_length_le (by simpa using hk)] at ha
  simp [ha]
theorem keyB_all (s : ByteArray) (h1 : 1 ≤ s.size) (h8 : s.size ≤ 8) (k : Nat) (hk : s.size ≤ k) (ha : (s.data.toList.take k).all keyC = true) : keyB s = true := by
  rw [keyB_of_all s k hk ha]; simp [h1, h8]
theorem sz8_yes (n : Nat) (h : 1 ≤ (n : Int)) : decide ((n : Int) ≤ 8) = (decide (1 ≤ n) && decide (n ≤ 8)) := by
  have h1 : decide (1 ≤ n) = true := decide_eq_true (by omega)
  rw [h1, Bool.true_and, Bool.eq_iff_iff]; simp; omega
theorem sz8_no (n : Nat) (h : (n : Int) < 1) : false = (decide (1 ≤ n) && decide (n ≤ 8)) := by
  have h1 : decide (1 ≤ n) = false := decide_eq_false (by omega)
  rw [h1]; rfl
abbrev EntD := ByteArray × Int × Int × ByteArray × Int
def kindB (d : Int) (t : ByteArray) (n : Int) : Bool :=
  if d = 1 then true else if d = 2 then decide (t.size = 0) && decide (n = 0) else if d = 3 then decide (t.size = 0) else false
def entB (k : ByteArray) (q d : Int) (t : ByteArray) (n : Int) : Bool :=
  keyB k && (decide (1 ≤ q) && (decide (q ≤ 100000) && (decide (-1000000 ≤ n) && (decide (n ≤ 1000000) && (decide (t.size ≤ 60) && kindB d t n)))))
theorem entB_key {k t : ByteArray} {q d n : Int} (h : keyB k = false) : entB k q d t n = false := by simp [entB, h]
theorem entB_q1 {k t : ByteArray} {q d n : Int} (h : q < 1) : entB k q d t n = false := by
  have : decide (1 ≤ q) = false := decide_eq_false (by omega)
  simp [entB, this]
theorem entB_q2 {k t : ByteArray} {q d n : Int} (h : 100000 < q) : entB k q d t n = false := by
  have : decide (q ≤ 100000) = false := decide_eq_false (by omega)
  simp [entB, this]
theorem entB_n1 {k t : ByteArray} {q d n : Int} (h : n < -1000000) : entB k q d t n = false := by
  have : decide (-1000000 ≤ n) = false := decide_eq_false (by omega)
  simp [entB, this]
theorem entB_n2 {k t : ByteArray} {q d n : Int} (h : 1000000 < n) : entB k q d t n = false := by
  have : decide (n ≤ 1000000) = false := decide_eq_false (by omega)
  simp [entB, this]
theorem entB_t {k t : ByteArray} {q d n : Int} (h : 60 < t.size) : entB k q d t n = false := by
  have : decide (t.size ≤ 60) = false := decide_eq_false (by omega)
  simp [entB, this]
theorem entB_rest {k t : ByteArray} {q d n : Int} (h : keyB k = true) (h1 : 1 ≤ q) (h2 : q ≤ 100000) (h3 : -1000000 ≤ n) (h4 : n ≤ 1000000) (h5 : t.size ≤ 60) : entB k q d t n = kindB d t n := by
  simp [entB, h, h1, h2, h3, h4, h5]
theorem size_pos_of_ne {t : ByteArray} (h : t ≠ ByteArray.empty) : t.size ≠ 0 := by
  intro h0; apply h; apply ByteArray.ext; exact Array.eq_empty_of_size_eq_zero h0
theorem toList_ne {t : ByteArray} (h : t ≠ ByteArray.empty) : ¬ t.toList = [] := by
  intro h0; apply h; rw [ByteArray.toList_eq] at h0; apply ByteArray.ext; exact Array.toList_eq_nil_iff.1 h0
theorem kindB_1 {t : ByteArray} {n : Int} : kindB 1 t n = true := by simp [kindB]
theorem kindB_2 {t : ByteArray} {n : Int} : kindB 2 t n = (decide (t.size = 0) && decide (n = 0)) := by simp [kindB]
theorem kindB_3 {t : ByteArray} {n : Int} : kindB 3 t n = decide (t.size = 0) := by simp [kindB]
theorem kindB_0 {d : Int} {t : ByteArray} {n : Int} (h1 : d ≠ 1) (h2 : d ≠ 2) (h3 : d ≠ 3) : kindB d t n = false := by simp [kindB, h1, h2, h3]
end Go.Proofs.YtlmgojlffgkciaaGreat
namespace Go.Proofs.YtlmgojlffgkciaaGreat
open Go.RowKit
theorem cmp_cases : ∀ (a b : List UInt8), (Lib.compareBytes a b = -1 ∧ Op.bytesLess a b = true ∧ a ≠ b) ∨ (Lib.compareBytes a b = 0 ∧ Op.bytesLess a b = false ∧ a = b) ∨ (Lib.compareBytes a b = 1 ∧ Op.bytesLess a b = false ∧ a ≠ b)
  | [], [] => Or.inr (Or.inl ⟨rfl, rfl, rfl⟩)
  | [], _ :: _ => Or.inl ⟨rfl, rfl, by simp⟩
  | _ :: _, [] => Or.inr (Or.inr ⟨rfl, rfl, by simp⟩)
  | x :: a, y :: b => by
    have ih := cmp_cases a b
    unfold Lib.compareBytes Op.bytesLess
    by_cases h1 : x < y
    · have hne : x ≠ y := fun e => UInt8.lt_irrefl y (e ▸ h1)
      exact Or.inl ⟨by simp [h1], by simp [h1], fun e => hne (by simpa using (List.cons.inj e).1)⟩
    · by_cases h2 : y < x
      · have hne : x ≠ y := fun e => UInt8.lt_irrefl y (e ▸ h2)
        exact Or.inr (Or.inr ⟨by simp [h1, h2], by simp [h1, hne], fun e => hne (by simpa using (List.cons.inj e).1)⟩)
      · have he : x = y := UInt8.le_antisymm (UInt8.not_lt.1 h2) (UInt8.not_lt.1 h1)
        subst he
        rcases ih with ⟨p, q, r⟩ | ⟨p, q, r⟩ | ⟨p, q, r⟩
        · exact Or.inl ⟨by simp [h1, p], by simp [q], by simpa using r⟩
        · exact Or.inr (Or.inl ⟨by simp [h1, p], by simp [h1, q], by simpa using r⟩)
        · exact Or.inr (Or.inr ⟨by simp [h1, p], by simp [h1, q], by simpa using r⟩)
def lessB (ka : ByteArray) (qa : Int) (kb : ByteArray) (qb : Int) : Bool :=
  Op.bytesLess ka.data.toList kb.data.toList || (decide (ka = kb) && decide (qb < qa))
end Go.Proofs.YtlmgojlffgkciaaGreat
namespace Go.Proofs.YtlmgojlffgkciaaGreat
open Go.RowKit
theorem bless_self : ∀ a : List UInt8, Op.bytesLess a a = false
  | [] => rfl
  | x :: a => by
    unfold Op.bytesLess
    have := bless_self a
    simp [this]
theorem bless_asymm : ∀ a b : List UInt8, Op.bytesLess a b = true → Op.bytesLess b a = false
  | [], [], h => by simp [Op.bytesLess] at h
  | [], _ :: _, _ => rfl
  | _ :: _, [], h => by simp [Op.bytesLess] at h
  | x :: a, y :: b, h => by
    unfold Op.bytesLess at h ⊢
    have ih := bless_asymm a b
    simp only [Bool.or_eq_true, decide_eq_true_eq, Bool.and_eq_true, beq_iff_eq] at h
    rcases h with h | ⟨rfl, h⟩
    · have h1 : ¬ y < x := fun g => UInt8.lt_asymm h g
      have h2 : ¬ y = x := fun g => UInt8.lt_irrefl x (by rw [g] at h; exact h)
      simp [h1, h2]
    · simp [ih h]
theorem bless_total : ∀ a b : List UInt8, a ≠ b → Op.bytesLess a b = true ∨ Op.bytesLess b a = true
  | [], [], h => absurd rfl h
  | [], _ :: _, _ => Or.inl rfl
  | _ :: _, [], _ => Or.inr rfl
  | x :: a, y :: b, h => by
    unfold Op.bytesLess
    by_cases h1 : x < y
    · left; simp [h1]
    · by_cases h2 : y < x
      · right; simp [h2]
      · have he : x = y := UInt8.le_antisymm (UInt8.not_lt.1 h2) (UInt8.not_lt.1 h1)
        subst he
        have ih := bless_total a b (fun e => h (by rw [e]))
        rcases ih with ih | ih
        · left; simp [ih]
        · right; simp [ih]
theorem bless_trans : ∀ a b c : List UInt8, Op.bytesLess a b = true → Op.bytesLess b c = true → Op.bytesLess a c = true
  | _, _, [], _, h => by simp [Op.bytesLess] at h
  | [], _, _ :: _, _, _ => rfl
  | _ :: _, [], _ :: _, h, _ => by simp [Op.bytesLess] at h
  | x :: a, y :: b, z :: c, h, k => by
    unfold Op.bytesLess at h k ⊢
    simp only [Bool.or_eq_true, decide_eq_true_eq, Bool.and_eq_true, beq_iff_eq] at h k ⊢
    rcases h with h | ⟨rfl, h⟩
    · rcases k with k | ⟨rfl, k⟩
      · exact Or.inl (UInt8.lt_trans h k)
      · exact Or.inl h
    · rcases k with k | ⟨rfl, k⟩
      · exact Or.inl k
      · exact Or.inr ⟨rfl, bless_trans a b c h k⟩
theorem lessB_self (k : ByteArray) (q : Int) : lessB k q k q = false := by
  unfold lessB
  simp [bless_self]
theorem lessB_true {ka kb : ByteArray} {qa qb : Int} (h : lessB ka qa kb qb = true) : Op.bytesLess ka.data.toList kb.data.toList = true ∨ (ka = kb ∧ qb < qa) := by
  unfold lessB at h
  simpa using h
theorem lessB_asymm {ka kb : ByteArray} {qa qb : Int} (h : lessB ka qa kb qb = true) : lessB kb qb ka qa = false := by
  rcases lessB_true h with h | ⟨rfl, h⟩
  · have h1 := bless_asymm _ _ h
    have h2 : ¬ kb = ka := fun e => by rw [e, bless_self] at h; cases h
    unfold lessB
    simp [h1, h2]
  · unfold lessB
    have : ¬ qa < qb := by omega
    simp [bless_self, this]
theorem lessB_trans {ka kb kc : ByteArray} {qa qb qc : Int} (h : lessB ka qa kb qb = true) (k : lessB kb qb kc qc = true) : lessB ka qa kc qc = true := by
  unfold lessB
  rcases lessB_true h with h | ⟨rfl, h⟩
  · rcases lessB_true k with k | ⟨rfl, k⟩
    · simp [bless_trans _ _ _ h k]
    · simp [h]
  · rcases lessB_true k with k | ⟨rfl, k⟩
    · simp [k]
    · have : qc < qa := by omega
      simp [this]
theorem lessB_one (ka kb : ByteArray) (qa qb : Int) : (lessB ka qa kb qb || lessB kb qb ka qa) = (decide (¬ ka = kb) || decide (¬ qa = qb)) := by
  by_cases he : ka = kb
  · subst he
    unfold lessB
    rw [bless_self]
    by_cases h1 : qb < qa
    · have : ¬ qa = qb := by omega
      simp [h1, this]
    · by_cases h2 : qa < qb
      · have : ¬ qa = qb := by omega
        simp [h2, this]
      · have : qa = qb := by omega
        simp [this]
  · have hne : ka.data.toList ≠ kb.data.toList := fun e => he (ByteArray.ext (Array.toList_inj.1 e))
    unfold lessB
    rcases bless_total _ _ hne with h | h <;> simp [h, he]
end Go.Proofs.YtlmgojlffgkciaaGreat
namespace Go.Proofs.YtlmgojlffgkciaaGreat
open Go.RowKit
def hstep (h : Nat) (b : UInt8) : Nat := (31 * h + b.toNat) % 65521
def hashN (l : List UInt8) : Nat := l.foldl hstep 7
def markN (h : Nat) : Nat := 2 ^ (h % 16) ||| 2 ^ (h / 16 % 16)
def maskK (s : ByteArray) : Nat := markN (hashN s.data.toList)
theorem hash_step (s : ByteArray) (k : Nat) (h : k < s.size) : hashN (s.data.toList.take (k + 1)) = hstep (hashN (s.data.toList.take k)) s[k] := by
  rw [take_snoc_b s k h]; simp [hashN]
theorem pow_small {a : Nat} (h : a < 16) : 2 ^ a < 65536 := by
  have : 2 ^ a < 2 ^ 16 := Nat.pow_lt_pow_right (by omega) h
  exact this
theorem or_small {a b : Nat} (ha : a < 65536) (hb : b < 65536) : a ||| b < 65536 := Nat.or_lt_two_pow (n := 16) ha hb
theorem markN_lt (h : Nat) : markN h < 65536 := or_small (pow_small (Nat.mod_lt _ (by omega))) (pow_small (Nat.mod_lt _ (by omega)))
theorem maskK_lt (s : ByteArray) : maskK s < 65536 := markN_lt _
theorem or_step (a b i : Nat) : (a ||| b) / 2 ^ i = (a ||| b) / 2 ^ (i + 1) * 2 + (if a / 2 ^ i % 2 = 1 ∨ b / 2 ^ i % 2 = 1 then 1 else 0) := by
  have h1 : (a ||| b).testBit i = (a.testBit i || b.testBit i) := Nat.testBit_or ..
  rw [Nat.testBit_eq_decide_div_mod_eq, Nat.testBit_eq_decide_div_mod_eq, Nat.testBit_eq_decide_div_mod_eq] at h1
  have h2 : (a ||| b) / 2 ^ (i + 1) = (a ||| b) / 2 ^ i / 2 := by rw [Nat.pow_succ, Nat.div_div_eq_div_mul]
  rw [h2]
  by_cases h3 : a / 2 ^ i % 2 = 1 ∨ b / 2 ^ i % 2 = 1
  · rw [if_pos h3]
    have : (a ||| b) / 2 ^ i % 2 = 1 := by
      have : decide ((a ||| b) / 2 ^ i % 2 = 1) = true := by rw [h1]; simpa using h3
      exact of_decide_eq_true this
    omega
  · rw [if_neg h3]
    have : ¬ (a ||| b) / 2 ^ i % 2 = 1 := by
      have : decide ((a ||| b) / 2 ^ i % 2 = 1) = false := by
        rw [h1]
        have h4 : ¬ a / 2 ^ i % 2 = 1 := fun e => h3 (Or.inl e)
        have h5 : ¬ b / 2 ^ i % 2 = 1 := fun e => h3 (Or.inr e)
        simp [h4, h5]
      exact of_decide_eq_false this
    omega
def maskL (L : List EntD) : Nat := L.foldl (fun m e => m ||| maskK e.1) 0
theorem maskL_snoc {L : List EntD} {k : Nat} {e : EntD} (h : L[k]? = some e) : maskL (L.take (k + 1)) = maskL (L.take k) ||| maskK e.1 := by
  rw [List.take_add_one, h]; simp [maskL]
def okAt (L : List EntD) (j : Nat) : Bool :=
  match L[j]? with
  | none => true
  | some e => entB e.1 e.2.1 e.2.2.1 e.2.2.2.1 e.2.2.2.2 && (match j with | 0 => true | i + 1 => match L[i]? with | none => true | some d => lessB d.1 d.2.1 e.1 e.2.1)
def rightB (L : List EntD) : Bool := (List.range L.length).all (okAt L)
def RightTo (L : List EntD) (k : Nat) : Prop := ∀ j, j < k → okAt L j = true
theorem right_of {L : List EntD} {k : Nat} (h : RightTo L k) (hk : L.length ≤ k) : rightB L = true := by
  unfold rightB
  rw [List.all_eq_true]
  intro j hj
  exact h j (by have := List.mem_range.1 hj; omega)
theorem right_no {L : List EntD} {k : Nat} (hk : k < L.length) (h : okAt L k = false) : rightB L = false := by
  rw [Bool.eq_false_iff]
  intro h1
  unfold rightB at h1
  rw [List.all_eq_true] at h1
  rw [h1 k (List.mem_range.2 hk)] at h
  cases h
theorem right_snoc {L : List EntD} {k : Nat} (h : RightTo L k) (hk : okAt L k = true) : RightTo L (k + 1) := by
  intro j hj
  by_cases e : j = k
  · rw [e]; exact hk
  · exact h j (by omega)
theorem okAt_zero {L : List EntD} {e : EntD} (h : L[0]? = some e) : okAt L 0 = entB e.1 e.2.1 e.2.2.1 e.2.2.2.1 e.2.2.2.2 := by
  unfold okAt; rw [h]; simp
theorem okAt_succ {L : List EntD} {i : Nat} {d e : EntD} (h : L[i + 1]? = some e) (g : L[i]? = some d) : okAt L (i + 1) = (entB e.1 e.2.1 e.2.2.1 e.2.2.2.1 e.2.2.2.2 && lessB d.1 d.2.1 e.1 e.2.1) := by
  unfold okAt; simp only [h, g]
theorem okAt_ent {L : List EntD} {k : Nat} {e : EntD} (h : L[k]? = some e) (g : entB e.1 e.2.1 e.2.2.1 e.2.2.2.1 e.2.2.2.2 = false) : okAt L k = false := by
  unfold okAt; rw [h]; simp [g]
def runB (L : List EntD) (m : Int) : Bool := decide (1 ≤ L.length) && (decide (L.length ≤ 150) && (rightB L && decide (m = maskL L)))
theorem runB_few {L : List EntD} {m : Int} (h : L.length < 1) : runB L m = false := by
  have : decide (1 ≤ L.length) = false := decide_eq_false (by omega)
  simp [runB, this]
theorem runB_many {L : List EntD} {m : Int} (h : 150 < L.length) : runB L m = false := by
  have : decide (L.length ≤ 150) = false := decide_eq_false (by omega)
  simp [runB, this]
theorem runB_right {L : List EntD} {m : Int} (h : rightB L = false) : runB L m = false := by simp [runB, h]
theorem runB_mask {L : List EntD} {m : Int} (h1 : 1 ≤ L.length) (h2 : L.length ≤ 150) (h3 : rightB L = true) : runB L m = decide (m = maskL L) := by
  simp [runB, h1, h2, h3]
end Go.Proofs.YtlmgojlffgkciaaGreat
namespace Go.Proofs.YtlmgojlffgkciaaGreat
open Go.RowKit
theorem right_at {L : List EntD} (h : rightB L = true) (j : Nat) (hj : j < L.length) : okAt L j = true := by
  unfold rightB at h
  rw [List.all_eq_true] at h
  exact h j (List.mem_range.2 hj)
theorem right_ent {L : List EntD} (h : rightB L = true) {j : Nat} {e : EntD} (hj : L[j]? = some e) : entB e.1 e.2.1 e.2.2.1 e.2.2.2.1 e.2.2.2.2 = true := by
  have h1 := right_at h j (List.getElem?_eq_some_iff.1 hj).1
  cases g : entB e.1 e.2.1 e.2.2.1 e.2.2.2.1 e.2.2.2.2 with
  | true => rfl
  | false => rw [okAt_ent hj g] at h1; cases h1
theorem right_next {L : List EntD} (h : rightB L = true) {j : Nat} {d e : EntD} (hd : L[j]? = some d) (he : L[j + 1]? = some e) : lessB d.1 d.2.1 e.1 e.2.1 = true := by
  have h1 := right_at h (j + 1) (List.getElem?_eq_some_iff.1 he).1
  rw [okAt_succ he hd] at h1
  simp at h1
  exact h1.2
theorem right_less {L : List EntD} (h : rightB L = true) {i j : Nat} (hij : i < j) {d e : EntD} (hd : L[i]? = some d) (he : L[j]? = some e) : lessB d.1 d.2.1 e.1 e.2.1 = true := by
  induction j generalizing e with
  | zero => omega
  | succ j ih =>
    have hj : j < L.length := by have := (List.getElem?_eq_some_iff.1 he).1; omega
    have hg : L[j]? = some L[j] := List.getElem?_eq_getElem hj
    have hn := right_next h hg he
    by_cases e1 : i = j
    · subst e1
      rw [hg] at hd
      cases hd
      exact hn
    · exact lessB_trans (ih (by omega) hg) hn
theorem entB_seq {k t : ByteArray} {q d n : Int} (h : entB k q d t n = true) : 1 ≤ q ∧ q ≤ 100000 := by
  simp [entB] at h
  exact ⟨h.2.1, h.2.2.1⟩
theorem runB_parts {L : List EntD} {m : Int} (h : runB L m = true) : 1 ≤ L.length ∧ L.length ≤ 150 ∧ rightB L = true ∧ m = maskL L := by
  simpa [runB] using h
end Go.Proofs.YtlmgojlffgkciaaGreat

namespace Go.Proofs.YtlmgojlffgkciaaGreat
open Go.RowKit
theorem bcell {W w1 : World} (hb : Below W.heap.size W w1) : (∀ b o, b < W.heap.size → w1.cell? ⟨b, o, none⟩ = W.cell? ⟨b, o, none⟩) ∧ (∀ b o, b < W.heap.size → w1.frozen? ⟨b, o, none⟩ = W.frozen? ⟨b, o, none⟩) :=
  ⟨fun b o h => hb.cell (p := ⟨b, o, none⟩) h, fun b o h => hb.frozen (p := ⟨b, o, none⟩) h⟩
end Go.Proofs.YtlmgojlffgkciaaGreat

namespace Go.Proofs.YtlmgojlffgkciaaGreat
open Go.RowKit Go.Joins Go.ChangeShapes Go.WideShapes Go.Deep
theorem Tryz.cellsEntL : Tryz.prog.cellsOf 77 = 5 := by kernel_rfl
def EntW (e : EntD) : Prop := e.1.size ≤ maxLen ∧ (Lit.int .i64 e.2.1).wf = true ∧ (Lit.int .i64 e.2.2.1).wf = true ∧ e.2.2.2.1.size ≤ maxLen ∧ (Lit.int .i64 e.2.2.2.2).wf = true
set_option maxHeartbeats 400000 in
theorem szEnt_no (k t : ByteArray) (q d n left : Int) (w : World) (hk : k.size ≤ maxLen) (ht : t.size ≤ maxLen) (h0 : 0 ≤ left) (h1 : left ≤ 1048576) (h : left < k.size + t.size) :
    Calls Tryz.prog 55 #[.agg #[.string k, .int .i64 q, .int .i64 d, .string t, .int .i64 n], .int .i64 left] w fun e w' => e = .returned (.int .i64 (-1)) ∧ Below w.heap.size w w' := by
  unfold maxLen at hk ht
  by_cases hc : left < k.size
  · go_enter Tryz.func55, Tryz.ntmps55
    go_wp2
    go_ret
    exact ⟨rfl, (Below.refl _ _).alloc (Nat.le_refl _) _⟩
  · go_enter Tryz.func55, Tryz.ntmps55
    go_wp2
    go_ret
    exact ⟨rfl, (Below.refl _ _).alloc (Nat.le_refl _) _⟩
set_option maxHeartbeats 400000 in
theorem szEnt_yes (k t : ByteArray) (q d n left : Int) (w : World) (h1 : left ≤ 1048576) (h : (k.size : Int) + t.size ≤ left) :
    Calls Tryz.prog 55 #[.agg #[.string k, .int .i64 q, .int .i64 d, .string t, .int .i64 n], .int .i64 left] w fun e w' => e = .returned (.int .i64 (left - k.size - t.size)) ∧ Below w.heap.size w w' := by
  go_enter Tryz.func55, Tryz.ntmps55
  go_wp2
  go_ret
  exact ⟨rfl, (Below.refl _ _).alloc (Nat.le_refl _) _⟩
set_option maxHeartbeats 400000 in
theorem toEnt_any (k t : ByteArray) (q d n : Int) (w : World) :
    Calls Tryz.prog 57 #[.agg #[.string k, .int .i64 q, .int .i64 d, .string t, .int .i64 n]] w fun e w' => e = .returned (.agg #[.string k, .int .i64 q, .int .i64 d, .string t, .int .i64 n]) ∧ Below w.heap.size w w' := by
  go_enter Tryz.func57, Tryz.ntmps57
  go_wp2
  refine bodyPost_ret (v := .agg #[.string k, .int .i64 q, .int .i64 d, .string t, .int .i64 n]) (by simp [results, Tryz.results57, go_sem]) rfl ⟨rfl, ?_⟩
  exact (((Below.refl _ _).alloc (Nat.le_refl _) _).alloc (by simp) _).alloc (by simp; omega) _
end Go.Proofs.YtlmgojlffgkciaaGreat

namespace Go.Proofs.YtlmgojlffgkciaaGreat
set_option maxRecDepth 100000
open Go.RowKit Go.Joins Go.ChangeShapes Go.WideShapes
def EntCells (w : World) (b o : Nat) (e : EntD) : Prop := w.cell? ⟨b, o, none⟩ = some (.string e.1) ∧ w.cell? ⟨b, o + 1, none⟩ = some (.int .i64 e.2.1) ∧ w.cell? ⟨b, o + 2, none⟩ = some (.int .i64 e.2.2.1) ∧ w.cell? ⟨b, o + 3, none⟩ = some (.string e.2.2.2.1) ∧ w.cell? ⟨b, o + 4, none⟩ = some (.int .i64 e.2.2.2.2)
theorem EntCells.moved {w w' : World} {b o : Nat} {e : EntD} (h : EntCells w b o e) (hc : ∀ o, w'.cell? ⟨b, o, none⟩ = w.cell? ⟨b, o, none⟩) : EntCells w' b o e :=
  ⟨(hc _).trans h.1, (hc _).trans h.2.1, (hc _).trans h.2.2.1, (hc _).trans h.2.2.2.1, (hc _).trans h.2.2.2.2⟩
structure EntsAt (w : World) (a : Option Addr) (len cap : Nat) (L : List EntD) : Prop where
  length : L.length = len
  room : len ≤ cap
  big : cap ≤ maxLen
  ents : ∀ e ∈ L, EntW e
  nil : a = none → len = 0
  lies : ∀ x, a = some x → 0 < len → x.block < w.heap.size ∧ x.spot = none
  cells : ∀ x, a = some x → ∀ i (h : i < L.length), EntCells w x.block (x.off + i * 5) L[i]
theorem EntsAt.moved {w w' : World} {a : Option Addr} {len cap : Nat} {L : List EntD} (h : EntsAt w a len cap L) (hs : w.heap.size ≤ w'.heap.size) (hc : ∀ x, a = some x → 0 < len → ∀ o, w'.cell? ⟨x.block, o, none⟩ = w.cell? ⟨x.block, o, none⟩) : EntsAt w' a len cap L where
  length := h.length
  room := h.room
  big := h.big
  ents := h.ents
  nil := h.nil
  lies := fun x e hp => ⟨Nat.lt_of_lt_of_le (h.lies x e hp).1 hs, (h.lies x e hp).2⟩
  cells := fun x e i hi => (h.cells x e i hi).moved (hc x e (by have := h.length; omega))
theorem EntsAt.below {B : Nat} {w w' : World} {a : Option Addr} {len cap : Nat} {L : List EntD} (h : EntsAt w a len cap L) (hb : Below B w w') (hB : ∀ x, a = some x → 0 < len → x.block < B) : EntsAt w' a len cap L :=
  h.moved hb.size (fun x e hp o => hb.cell (p := ⟨x.block, o, none⟩) (hB x e hp))
theorem EntsAt.keep {w w' : World} {a : Option Addr} {len cap : Nat} {L : List EntD} (h : EntsAt w a len cap L) (hb : Below w.heap.size w w') : EntsAt w' a len cap L := h.below hb (fun x e hp => (h.lies x e hp).1)
theorem EntsAt.setCell {w : World} {a : Option Addr} {len cap : Nat} {L : List EntD} (h : EntsAt w a len cap L) (p : Addr) (u : Value) (hp : ∀ x, a = some x → 0 < len → x.block ≠ p.block) : EntsAt (w.setCell p u) a len cap L :=
  h.moved (by simp [World.setCell]) (fun x e hl o => World.cell?_of_block (by rw [Below.heap_setCell _ _ _ _ (hp x e hl)]))
theorem EntsAt.ent {B : Nat} {w wr : World} {b off len cap : Nat} {L : List EntD} (h : EntsAt w (some ⟨b, off, none⟩) len cap L) (hb : Below B w wr) (hB : b < B) (k : Nat) (hk : k < len) :
    ∃ s q d t n, L[k]? = some (s, q, d, t, n) ∧ EntW (s, q, d, t, n) ∧ wr.cell? ⟨b, off + k * 5, none⟩ = some (.string s) ∧ wr.cell? ⟨b, off + k * 5 + 1, none⟩ = some (.int .i64 q) ∧ wr.cell? ⟨b, off + k * 5 + 2, none⟩ = some (.int .i64 d) ∧ wr.cell? ⟨b, off + k * 5 + 3, none⟩ = some (.string t) ∧ wr.cell? ⟨b, off + k * 5 + 4, none⟩ = some (.int .i64 n) := by
  have hk' : k < L.length := by rw [h.length]; exact hk
  obtain ⟨c0, c1, c2, c3, c4⟩ := (h.cells _ rfl k hk').moved (fun o => hb.cell (p := ⟨b, o, none⟩) hB)
  exact ⟨L[k].1, L[k].2.1, L[k].2.2.1, L[k].2.2.2.1, L[k].2.2.2.2, List.getElem?_eq_getElem hk', h.ents _ (List.getElem_mem hk'), c0, c1, c2, c3, c4⟩
theorem EntsAt.form {w : World} {a : Option Addr} {len cap : Nat} {L : List EntD} (h : EntsAt w a len cap L) (hl : 1 ≤ len) : ∃ b off, a = some ⟨b, off, none⟩ ∧ b < w.heap.size := by
  cases a with
  | none => have := h.nil rfl; omega
  | some x =>
    obtain ⟨b, off, spot⟩ := x
    obtain ⟨h1, h2⟩ := h.lies _ rfl (by omega)
    simp only at h1 h2
    subst h2
    exact ⟨b, off, rfl, h1⟩
theorem trod_struct5 {H : Type} {enc : TypeId × Value → H} {P : Program} {w : World} {base : Nat} {spare : Nat → Bool} {held : Bool} {t : TypeId} {f0 f1 f2 f3 f4 : Field} {fuel : Nat} {cs : List Value} {x : DataW H × List MemPlace} (ht : P.underlying t = some (.struct #[f0, f1, f2, f3, f4])) (h : DataW.trod enc P w base spare held fuel t cs = some x) :
    ∃ y0 y1 y2 y3 y4 n, DataW.trod enc P w base spare held n f0.type ((cs.drop f0.offset).take (P.cellsOf f0.type)) = some y0 ∧ DataW.trod enc P w base spare held n f1.type ((cs.drop f1.offset).take (P.cellsOf f1.type)) = some y1 ∧ DataW.trod enc P w base spare held n f2.type ((cs.drop f2.offset).take (P.cellsOf f2.type)) = some y2 ∧ DataW.trod enc P w base spare held n f3.type ((cs.drop f3.offset).take (P.cellsOf f3.type)) = some y3 ∧ DataW.trod enc P w base spare held n f4.type ((cs.drop f4.offset).take (P.cellsOf f4.type)) = some y4 := by
  obtain ⟨xs, n, _, rfl, hl, hlen, hf⟩ := DataW.trod_struct ht h
  match xs, hlen with
  | [y0, y1, y2, y3, y4], _ => exact ⟨y0, y1, y2, y3, y4, n, by simpa using hf 0 f0 rfl, by simpa using hf 1 f1 rfl, by simpa using hf 2 f2 rfl, by simpa using hf 3 f3 rfl, by simpa using hf 4 f4 rfl⟩
theorem open_ents {H : Type} {enc : TypeId × Value → H} {W : World} {base fuel : Nat} {v : Value} {x : DataW H × List MemPlace} {held : Bool} (hy1 : DataW.trod enc Tryz.prog W base (fun _ => true) held fuel 22 [v] = some x) :
    ∃ (a : Option Addr) (len cap : Nat) (L : List EntD), v = .slice a len cap ∧ EntsAt W a len cap L := by
  rcases Deep.open_slice Tryz.underlying22 hy1 with ⟨hcs, _⟩ | ⟨a, len, cap, mm, n, D, Pl, hcs, hb, hl, hm, hmm, _, hx⟩
  · simp at hcs
    subst hcs
    exact ⟨none, 0, 0, [], rfl, ⟨rfl, Nat.le_refl _, Nat.zero_le _, by simp, fun _ => rfl, (fun x e => by cases e), (fun x e => by cases e)⟩⟩
  · simp at hcs
    subst hcs
    simp at hmm
    rw [Tryz.cellsEntL] at hx
    have each : ∀ i, i < mm → ∃ l : EntD, EntW l ∧ W.cell? (a.add (i * 5)) = some (.string l.1) ∧ W.cell? (a.add (i * 5 + 1)) = some (.int .i64 l.2.1) ∧ W.cell? (a.add (i * 5 + 2)) = some (.int .i64 l.2.2.1) ∧ W.cell? (a.add (i * 5 + 3)) = some (.string l.2.2.2.1) ∧ W.cell? (a.add (i * 5 + 4)) = some (.int .i64 l.2.2.2.2) := by
      intro i hi
      obtain ⟨cs', g1, g2⟩ := hx i hi
      obtain ⟨_, hlen, hcell⟩ := World.cells?_some g1
      obtain ⟨z0, z1, z2, z3, z4, n', t0, t1, t2, t3, t4⟩ := trod_struct5 Tryz.underlying77 g2
      match cs', hlen with
      | [u0, u1, u2, u3, u4], _ =>
        have k0 := hcell 0 (by omega)
        have k1 := hcell 1 (by omega)
        have k2 := hcell 2 (by omega)
        have k3 := hcell 3 (by omega)
        have k4 := hcell 4 (by omega)
        rw [Deep.add_add] at k0 k1 k2 k3 k4
        obtain ⟨s, q0, _, ws⟩ := DataW.trod_string Tryz.underlying9 t0
        obtain ⟨q, q1, _, wq⟩ := DataW.trod_int Tryz.underlying3 t1
        obtain ⟨d, q2, _, wd⟩ := DataW.trod_int Tryz.underlying3 t2
        obtain ⟨t, q3, _, wt⟩ := DataW.trod_string Tryz.underlying9 t3
        obtain ⟨nn, q4, _, wn⟩ := DataW.trod_int Tryz.underlying3 t4
        have r3 : Tryz.prog.cellsOf 9 = 1 := by kernel_rfl
        have r4 : Tryz.prog.cellsOf 3 = 1 := by kernel_rfl
        simp [r3, r4] at q0 q1 q2 q3 q4
        subst q0 q1 q2 q3 q4
        exact ⟨(s, q, d, t, nn), ⟨ws, wq, wd, wt, wn⟩, by simpa using k0, by simpa using k1, by simpa using k2, by simpa using k3, by simpa using k4⟩
    obtain ⟨f, hf⟩ := Deep.choose_lt each
    have spot : 0 < len → a.spot = none := fun hp => by
      have := (hf 0 (by omega)).2.1
      simpa [Addr.add] using World.cell?_spot this
    have plain : 0 < len → ∀ j, a.add j = ⟨a.block, a.off + j, none⟩ := fun hp j => by
      have := spot hp
      obtain ⟨b, o, sp⟩ := a
      simp only at this
      subst this
      exact add_plain _ _ _
    refine ⟨some a, len, cap, (List.range len).map f, rfl, ⟨by simp, hl, hm, ?_, (fun e => by cases e), ?_, ?_⟩⟩
    · intro l hl'
      obtain ⟨i, hi, rfl⟩ := List.mem_map.1 hl'
      exact (hf i (by have := List.mem_range.1 hi; omega)).1
    · rintro x e hp
      cases e
      refine ⟨?_, spot hp⟩
      obtain ⟨cs', g1, _⟩ := hx 0 (by omega)
      have := World.cells?_block g1 (by omega)
      simpa [Addr.add] using this
    · rintro x e i hi
      cases e
      simp at hi
      obtain ⟨_, g0, g1, g2, g3, g4⟩ := hf i (by omega)
      rw [plain (by omega)] at g0 g1 g2 g3 g4
      simp only [List.getElem_map, List.getElem_range]
      exact ⟨g0, by simpa [Nat.add_assoc] using g1, by simpa [Nat.add_assoc] using g2, by simpa [Nat.add_assoc] using g3, by simpa [Nat.add_assoc] using g4⟩
end Go.Proofs.YtlmgojlffgkciaaGreat

namespace Go.Proofs.YtlmgojlffgkciaaGreat
open Go.RowKit
set_option maxHeartbeats 400000 in
theorem eqEnt_same (s t : ByteArray) (q d n : Int) (w : World) :
    Calls Tryz.prog 60 #[.agg #[.string s, .int .i64 q, .int .i64 d, .string t, .int .i64 n], .agg #[.string s, .int .i64 q, .int .i64 d, .string t, .int .i64 n]] w fun e w' => e = .returned (.bool true) ∧ Below w.heap.size w w' := by
  go_enter Tryz.func60, Tryz.ntmps60
  go_wp2
  go_ret
  exact ⟨rfl, ((Below.refl _ _).alloc (Nat.le_refl _) _).alloc (by simp) _⟩
theorem Tryz.infoEnt : (Tryz.prog.info? 78).map (fun i => (i.zero, i.size, i.bytes)) = some (some (.agg #[.string ByteArray.empty, .int .i64 0, .int .i64 0, .string ByteArray.empty, .int .i64 0]), 5, 56) := by kernel_rfl
def RowEnt (xs : List Value) (j : Nat) (l : EntD) : Prop := xs[j * 5]? = some (.string l.1) ∧ xs[j * 5 + 1]? = some (.int .i64 l.2.1) ∧ xs[j * 5 + 2]? = some (.int .i64 l.2.2.1) ∧ xs[j * 5 + 3]? = some (.string l.2.2.2.1) ∧ xs[j * 5 + 4]? = some (.int .i64 l.2.2.2.2)
theorem rowEnt_other {xs : List Value} {j k : Nat} {l : EntD} (h : RowEnt xs j l) (hne : j ≠ k) (u0 u1 u2 u3 u4 : Value) : RowEnt (((((xs.set (k * 5) u0).set (k * 5 + 1) u1).set (k * 5 + 2) u2).set (k * 5 + 3) u3).set (k * 5 + 4) u4) j l := by
  obtain ⟨h0, h1, h2, h3, h4⟩ := h
  refine ⟨?_, ?_, ?_, ?_, ?_⟩ <;> (repeat rw [List.getElem?_set_ne (by omega)]) <;> assumption
theorem rowEnt_same {xs : List Value} {k : Nat} (s t : ByteArray) (q d n : Int) (h : k * 5 + 4 < xs.length) : RowEnt (((((xs.set (k * 5) (.string s)).set (k * 5 + 1) (.int .i64 q)).set (k * 5 + 2) (.int .i64 d)).set (k * 5 + 3) (.string t)).set (k * 5 + 4) (.int .i64 n)) k (s, q, d, t, n) := by
  refine ⟨?_, ?_, ?_, ?_, ?_⟩
  · rw [List.getElem?_set_ne (by omega), List.getElem?_set_ne (by omega), List.getElem?_set_ne (by omega), List.getElem?_set_ne (by omega), List.getElem?_set_self (by omega)]
  · rw [List.getElem?_set_ne (by omega), List.getElem?_set_ne (by omega), List.getElem?_set_ne (by omega), List.getElem?_set_self (by simp; omega)]
  · rw [List.getElem?_set_ne (by omega), List.getElem?_set_ne (by omega), List.getElem?_set_self (by simp; omega)]
  · rw [List.getElem?_set_ne (by omega), List.getElem?_set_self (by simp; omega)]
  · rw [List.getElem?_set_self (by simp; omega)]
theorem entsAt_of_row {w : World} {base g n cap : Nat} {xs : List Value} {L : List EntD} (h : w.ownsRow base 78 5 (.slice (some ⟨g, 0, none⟩) n cap) n xs) (hn : L.length = n) (hw : ∀ l ∈ L, EntW l)
    (hh : ∀ j l, L[j]? = some l → RowEnt xs j l) : EntsAt w (some ⟨g, 0, none⟩) n cap L := by
  have hlt := (h.lt g rfl).2
  have hrc : n ≤ cap ∧ cap ≤ maxLen := by
    rcases h.2 with ⟨h', _⟩ | ⟨g', cap', cur, h', _, _, hnc, hcm, _, _⟩
    · simp at h'
    · simp only [Value.slice.injEq, Option.some.injEq, Addr.mk.injEq, and_true, true_and] at h'
      obtain ⟨rfl, rfl⟩ := h'
      exact ⟨hnc, hcm⟩
  refine ⟨hn, hrc.1, hrc.2, hw, (fun e => by cases e), ?_, ?_⟩
  · rintro x e _
    cases e
    exact ⟨hlt, rfl⟩
  · rintro x e i hi
    cases e
    obtain ⟨r0, r1, r2, r3, r4⟩ := hh i L[i] (List.getElem?_eq_getElem hi)
    rw [hn] at hi
    simp only [Nat.zero_add]
    exact ⟨(h.cellAt _ (by omega)).trans r0, (h.cellAt _ (by omega)).trans r1, (h.cellAt _ (by omega)).trans r2, (h.cellAt _ (by omega)).trans r3, (h.cellAt _ (by omega)).trans r4⟩
set_option maxHeartbeats 1000000 in
theorem toEntS_any (a : Option Addr) (len cap : Nat) (L : List EntD) (w : World) (hL : EntsAt w a len cap L) (hbig : len ≤ 1048576) :
    Calls Tryz.prog 24 #[.slice a len cap] w fun e w' => e = .returned (.slice (some ⟨w.heap.size, 0, none⟩) len len) ∧ EntsAt w' (some ⟨w.heap.size, 0, none⟩) len len L ∧ w.heap.size < w'.heap.size ∧ Below w.heap.size w w' := by
  have HLEN : Hid (L.length = len) := hL.length
  have HENTS : Hid (∀ l ∈ L, EntW l) := hL.ents
  have HL : Hid (EntsAt w a len cap L) := hL
  clear hL
  obtain ⟨i0, hi, hz0, hz1, hz2⟩ := info_parts Tryz.infoEnt
  go_enter Tryz.func24, Tryz.ntmps24
  go_wp2_with (at_make; refine wpList_make_full _ rfl _ _ 28 rfl w.heap.size 78 i0 _ 5 Tryz.underlying28 hi hz0 hz1 .i64 .i64 _ _ len rfl rfl (by simp) (by simp) (by rw [hz2]; omega) (by unfold maxLen; omega) (Nat.le_refl _) ?_; intro w1 hown hgrow)
  have hb1 : Below w.heap.size w w1 := (Below.refl _ _).grown hgrow (Nat.le_refl _) (by simp)
  have hsz1 : w.heap.size < w1.heap.size := (hown.lt _ rfl).2
  go_loopw [4] (fun i wr => ∃ (k : Nat) (xs : List Value), k ≤ len ∧ i = .int .i64 k ∧ wr.ownsRow w.heap.size 78 5 (.slice (some ⟨w.heap.size, 0, none⟩) len len) len xs ∧ Below w.heap.size w wr ∧ (∀ j l, j < k → L[j]? = some l → RowEnt xs j l)) (fun i _ => len - (intOf i).toNat)
  case atStart => exact ⟨0, _, Nat.zero_le _, rfl, hown, hb1, fun j l h => absurd h (Nat.not_lt_zero _)⟩
  case round =>
    obtain ⟨k, xs, hk, rfl, ho, hb, hrow⟩ := hrel
    have HROW : Hid (∀ j l, j < k → L[j]? = some l → RowEnt xs j l) := hrow
    clear hrow hown hgrow
    by_cases hlt : k < len
    · obtain ⟨b, off, rfl, hbb⟩ := HL.out.form (by omega)
      obtain ⟨s, q, d, t, n, hg, hlw, g0, g1, g2, g3, g4⟩ := HL.out.ent hb hbb k hlt
      have HG : Hid (L[k]? = some (s, q, d, t, n)) := hg
      clear hg hlw
      have hxl := ho.1
      have HX : Hid (xs.length = len * 5) := hxl
      clear hxl
      have HO : Hid (wr.ownsRow w.heap.size 78 5 (.slice (some ⟨w.heap.size, 0, none⟩) len len) len xs) := ho
      clear ho
      go_wp2_with fail
      refine (toEnt_any _ _ _ _ _ _).mono ?_
      rintro e w2 ⟨rfl, hb2⟩
      have ho2 : w2.ownsRow w.heap.size 78 5 (.slice (some ⟨w.heap.size, 0, none⟩) len len) len xs := HO.out.kept (row := none) ⟨hb2.os, hb2.tape, hb2.output, hb2.size, fun k hk _ => hb2.block k hk⟩ (.inr (by simp [Value.ownBlock]))
      have c0 : ∃ v, w2.cell? ⟨w.heap.size, k * 5, none⟩ = some v := ⟨_, (ho2.cellAt _ (by omega)).trans (List.getElem?_eq_getElem (by rw [HX.out]; omega))⟩
      have c1 : ∃ v, w2.cell? ⟨w.heap.size, k * 5 + 1, none⟩ = some v := ⟨_, (ho2.cellAt _ (by omega)).trans (List.getElem?_eq_getElem (by rw [HX.out]; omega))⟩
      have c2 : ∃ v, w2.cell? ⟨w.heap.size, k * 5 + 2, none⟩ = some v := ⟨_, (ho2.cellAt _ (by omega)).trans (List.getElem?_eq_getElem (by rw [HX.out]; omega))⟩
      have c3 : ∃ v, w2.cell? ⟨w.heap.size, k * 5 + 3, none⟩ = some v := ⟨_, (ho2.cellAt _ (by omega)).trans (List.getElem?_eq_getElem (by rw [HX.out]; omega))⟩
      have c4 : ∃ v, w2.cell? ⟨w.heap.size, k * 5 + 4, none⟩ = some v := ⟨_, (ho2.cellAt _ (by omega)).trans (List.getElem?_eq_getElem (by rw [HX.out]; omega))⟩
      obtain ⟨v0, c0⟩ := c0
      obtain ⟨v1, c1⟩ := c1
      obtain ⟨v2, c2⟩ := c2
      obtain ⟨v3, c3⟩ := c3
      obtain ⟨v4, c4⟩ := c4
      have f0 : w2.frozen? ⟨w.heap.size, k * 5, none⟩ = false := ho2.frozenAt _
      have f1 : w2.frozen? ⟨w.heap.size, k * 5 + 1, none⟩ = false := ho2.frozenAt _
      have f2 : w2.frozen? ⟨w.heap.size, k * 5 + 2, none⟩ = false := ho2.frozenAt _
      have f3 : w2.frozen? ⟨w.heap.size, k * 5 + 3, none⟩ = false := ho2.frozenAt _
      have f4 : w2.frozen? ⟨w.heap.size, k * 5 + 4, none⟩ = false := ho2.frozenAt _
      have HO2 : Hid (w2.ownsRow w.heap.size 78 5 (.slice (some ⟨w.heap.size, 0, none⟩) len len) len xs) := ho2
      clear ho2
      go_wp2
      go_roundw
      case rel =>
        have t0 := HO2.out.stored (k * 5) (.string s)
        have t1 := t0.1.stored (k * 5 + 1) (.int .i64 q)
        have t2 := t1.1.stored (k * 5 + 2) (.int .i64 d)
        have t3 := t2.1.stored (k * 5 + 3) (.string t)
        have t4 := t3.1.stored (k * 5 + 4) (.int .i64 n)
        refine ⟨k + 1, _, by omega, by go_num, t4.1, ?_, ?_⟩
        · exact (((((hb.trans (hb2.mono hb.size)).setCell (p := ⟨w.heap.size, _, none⟩) (Nat.le_refl _) _).setCell (p := ⟨w.heap.size, _, none⟩) (Nat.le_refl _) _).setCell (p := ⟨w.heap.size, _, none⟩) (Nat.le_refl _) _).setCell (p := ⟨w.heap.size, _, none⟩) (Nat.le_refl _) _).setCell (p := ⟨w.heap.size, _, none⟩) (Nat.le_refl _) _
        · intro j l hj hl
          by_cases hjk : j = k
          · subst hjk
            rw [HG.out] at hl
            cases hl
            exact rowEnt_same s t q d n (by rw [HX.out]; omega)
          · exact rowEnt_other (HROW.out j l (by omega) hl) hjk _ _ _ _ _
      case measure => simp [intOf]; omega
    · go_wp2
      go_ret
      exact ⟨rfl, entsAt_of_row ho HLEN.out HENTS.out (fun j l hl => HROW.out j l (by have := (List.getElem?_eq_some_iff.1 hl).1; rw [HLEN.out] at this; omega) hl), (ho.lt _ rfl).2, hb⟩
set_option maxHeartbeats 800000 in
theorem eqEntS_same (b1 o1 b2 o2 len cap1 cap2 : Nat) (L : List EntD) (w : World) (h1 : EntsAt w (some ⟨b1, o1, none⟩) len cap1 L) (h2 : EntsAt w (some ⟨b2, o2, none⟩) len cap2 L) :
    Calls Tryz.prog 26 #[.slice (some ⟨b1, o1, none⟩) len cap1, .slice (some ⟨b2, o2, none⟩) len cap2] w fun e w' => e = .returned (.bool true) ∧ Below w.heap.size w w' := by
  have hbl := h1.room
  have hbc := h1.big
  unfold maxLen at hbc
  have H1 : Hid (EntsAt w (some ⟨b1, o1, none⟩) len cap1 L) := h1
  have H2 : Hid (EntsAt w (some ⟨b2, o2, none⟩) len cap2 L) := h2
  clear h1 h2
  go_enter Tryz.func26, Tryz.ntmps26
  go_wp2
  go_loopw [5] (fun i wr => ∃ k : Nat, k ≤ len ∧ i = .int .i64 k ∧ Below w.heap.size w wr) (fun i _ => len - (intOf i).toNat)
  case atStart => exact ⟨0, Nat.zero_le _, rfl, Below.refl _ _⟩
  case round =>
    obtain ⟨k, hk, rfl, hb⟩ := hrel
    by_cases hlt : k < len
    · obtain ⟨s, q, d, t, n, hg, _, g0, g1, g2, g3, g4⟩ := H1.out.ent hb (H1.out.lies _ rfl (by omega)).1 k hlt
      obtain ⟨s', q', d', t', n', hg', _, p0, p1, p2, p3, p4⟩ := H2.out.ent hb (H2.out.lies _ rfl (by omega)).1 k hlt
      rw [hg] at hg'
      cases hg'
      clear hg
      have hltI : (k : Int) < (len : Int) := by omega
      go_wp2_with fail
      go_region_with (go_at_call 60; refine (eqEnt_same _ _ _ _ _ _).mono ?_; rintro e w1 ⟨rfl, hb1⟩)
      all_goals
        go_wp2
        go_roundw
        case rel => exact ⟨k + 1, by omega, by go_num, hb.drew.trans (hb1.mono hb.size)⟩
        case measure => simp [intOf]; omega
    · go_wp2
      go_ret
      exact ⟨rfl, hb⟩
end Go.Proofs.YtlmgojlffgkciaaGreat
