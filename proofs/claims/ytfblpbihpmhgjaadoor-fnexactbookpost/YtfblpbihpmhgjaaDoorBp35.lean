/-
  Plain functions on keys, entries and cells: no statement of the program stands here.
  Plain: the order of texts by their bytes, and of entries; no statement of the program stands here.
  Plain: the order of entries is an order; no statement of the program stands here.
  Plain: the marks of keys, entries in order, and runs; no statement of the program stands here.
  Plain: entries in order, what a run may have and what is found in it; no statement of the program stands here.
-/
import Derived.Test.YtfblpbihpmhgjaaDoorBp00
import Derived.WalkKit
import Derived.Lib.Bytealg
import Derived.Lib.Small
import Derived.Lib.Strings
namespace Go.Proofs.YtfblpbihpmhgjaaDoor
open Go.RowKit

/-- A byte of a key. -/
def keyC (b : UInt8) : Bool := (decide (97 ≤ b.toNat) && decide (b.toNat ≤ 122)) || (decide (47 ≤ b.toNat) && decide (b.toNat ≤ 57))
/-- A key. -/
def keyB (s : ByteArray) : Bool := decide (1 ≤ s.size) && (decide (s.size ≤ 8) && s.data.toList.all keyC)

theorem keyC_true {b : UInt8} (h : keyC b = true) : (97 ≤ (b.toNat : Int) ∧ (b.toNat : Int) ≤ 122) ∨ (47 ≤ (b.toNat : Int) ∧ (b.toNat : Int) ≤ 57) := by
  simp [keyC] at h; omega
theorem keyC_false {b : UInt8} (h : keyC b = false) : (b.toNat : Int) < 47 ∨ (57 < (b.toNat : Int) ∧ (b.toNat : Int) < 97) ∨ 122 < (b.toNat : Int) := by
  simp [keyC] at h
  by_cases h1 : b.toNat < 47
  · exact Or.inl (by omega)
  · by_cases h2 : b.toNat < 97
    · exact Or.inr (Or.inl (by omega))
    · exact Or.inr (Or.inr (by omega))

theorem key_take_snoc (s : ByteArray) (k : Nat) (h : k < s.size) (ha : (s.data.toList.take k).all keyC = true) (hb : keyC s[k] = true) : (s.data.toList.take (k + 1)).all keyC = true := by
  rw [take_snoc_b s k h, List.all_append, ha]; simp [hb]
theorem key_false_of (s : ByteArray) (k : Nat) (h : k < s.size) (hb : keyC s[k] = false) : keyB s = false := by
  have : s.data.toList.all keyC = false := by
    rw [Bool.eq_false_iff]
    intro hall
    rw [List.all_eq_true] at hall
    have hm : s[k] ∈ s.data.toList := by
      have : s.data.toList[k]'(by simpa using h) = s[k] := rfl
      rw [← this]; exact List.getElem_mem _
    rw [hall _ hm] at hb
    cases hb
  unfold keyB; rw [this]; simp
theorem keyB_small (s : ByteArray) (h : s.size < 1) : keyB s = false := by
  unfold keyB; have : decide (1 ≤ s.size) = false := decide_eq_false (by omega)
  rw [this]; rfl
theorem keyB_big (s : ByteArray) (h : 8 < s.size) : keyB s = false := by
  unfold keyB; have : decide (s.size ≤ 8) = false := decide_eq_false (by omega)
  rw [this]; simp
theorem keyB_of_all (s : ByteArray) (k : Nat) (hk : s.size ≤ k) (ha : (s.data.toList.take k).all keyC = true) : keyB s = (decide (1 ≤ s.size) && decide (s.size ≤ 8)) := by
  unfold keyB
  rw [List.take_of_length_le (by simpa using hk)] at ha
  simp [ha]
theorem keyB_all (s : ByteArray) (h1 : 1 ≤ s.size) (h8 : s.size ≤ 8) (k : Nat) (hk : s.size ≤ k) (ha : (s.data.toList.take k).all keyC = true) : keyB s = true := by
  rw [keyB_of_all s k hk ha]; simp [h1, h8]
theorem sz8_yes (n : Nat) (h : 1 ≤ (n : Int)) : decide ((n : Int) ≤ 8) = (decide (1 ≤ n) && decide (n ≤ 8)) := by
  have h1 : decide (1 ≤ n) = true := decide_eq_true (by omega)
  rw [h1, Bool.true_and, Bool.eq_iff_iff]; simp; omega
theorem sz8_no (n : Nat) (h : (n : Int) < 1) : false = (decide (1 ≤ n) && decide (n ≤ 8)) := by
  have h1 : decide (1 ≤ n) = false := decide_eq_false (by omega)
  rw [h1]; rfl

/-- An entry: key, time, kind, text, number. -/
abbrev EntD := ByteArray × Int × Int × ByteArray × Int
/-- A cell: whether it has, text, number. -/
abbrev CellD := Bool × ByteArray × Int
def kindB (d : Int) (t : ByteArray) (n : Int) : Bool :=
  if d = 1 then true else if d = 2 then decide (t.size = 0) && decide (n = 0) else if d = 3 then decide (t.size = 0) else false
def entB (k : ByteArray) (q d : Int) (t : ByteArray) (n : Int) : Bool :=
  keyB k && (decide (1 ≤ q) && (decide (q ≤ 100000) && (decide (-1000000 ≤ n) && (decide (n ≤ 1000000) && (decide (t.size ≤ 60) && kindB d t n)))))
def cellDo (h : Bool) (t : ByteArray) (n : Int) (d : Int) (t' : ByteArray) (n' : Int) : CellD :=
  if d = 1 then (true, t', n') else if d = 2 then (false, ByteArray.empty, 0) else if d = 3 then (true, t, IntKind.i64.wrap (n + n')) else (h, t, n)

theorem entB_key {k t : ByteArray} {q d n : Int} (h : keyB k = false) : entB k q d t n = false := by simp [entB, h]
theorem entB_q1 {k t : ByteArray} {q d n : Int} (h : q < 1) : entB k q d t n = false := by
  have : decide (1 ≤ q) = false := decide_eq_false (by omega)
  simp [entB, this]
theorem entB_q2 {k t : ByteArray} {q d n : Int} (h : 100000 < q) : entB k q d t n = false := by
  have : decide (q ≤ 100000) = false := decide_eq_false (by omega)
  simp [entB, this]
theorem entB_n1 {k t : ByteArray} {q d n : Int} (h : n < -1000000) : entB k q d t n = false := by
  have : decide (-1000000 ≤ n) = false := decide_eq_false (by omega)
  simp [entB, this]
theorem entB_n2 {k t : ByteArray} {q d n : Int} (h : 1000000 < n) : entB k q d t n = false := by
  have : decide (n ≤ 1000000) = false := decide_eq_false (by omega)
  simp [entB, this]
theorem entB_t {k t : ByteArray} {q d n : Int} (h : 60 < t.size) : entB k q d t n = false := by
  have : decide (t.size ≤ 60) = false := decide_eq_false (by omega)
  simp [entB, this]
theorem entB_rest {k t : ByteArray} {q d n : Int} (h : keyB k = true) (h1 : 1 ≤ q) (h2 : q ≤ 100000) (h3 : -1000000 ≤ n) (h4 : n ≤ 1000000) (h5 : t.size ≤ 60) : entB k q d t n = kindB d t n := by
  simp [entB, h, h1, h2, h3, h4, h5]
theorem size_pos_of_ne {t : ByteArray} (h : t ≠ ByteArray.empty) : t.size ≠ 0 := by
  intro h0; apply h; apply ByteArray.ext; exact Array.eq_empty_of_size_eq_zero h0
theorem toList_ne {t : ByteArray} (h : t ≠ ByteArray.empty) : ¬ t.toList = [] := by
  intro h0; apply h; rw [ByteArray.toList_eq] at h0; apply ByteArray.ext; exact Array.toList_eq_nil_iff.1 h0
theorem kindB_1 {t : ByteArray} {n : Int} : kindB 1 t n = true := by simp [kindB]
theorem kindB_2 {t : ByteArray} {n : Int} : kindB 2 t n = (decide (t.size = 0) && decide (n = 0)) := by simp [kindB]
theorem kindB_3 {t : ByteArray} {n : Int} : kindB 3 t n = decide (t.size = 0) := by simp [kindB]
theorem kindB_0 {d : Int} {t : ByteArray} {n : Int} (h1 : d ≠ 1) (h2 : d ≠ 2) (h3 : d ≠ 3) : kindB d t n = false := by simp [kindB, h1, h2, h3]
theorem cellDo_1 {h : Bool} {t t' : ByteArray} {n n' : Int} : cellDo h t n 1 t' n' = (true, t', n') := by simp [cellDo]
theorem cellDo_2 {h : Bool} {t t' : ByteArray} {n n' : Int} : cellDo h t n 2 t' n' = (false, ByteArray.empty, 0) := by simp [cellDo]
theorem cellDo_3 {h : Bool} {t t' : ByteArray} {n n' : Int} : cellDo h t n 3 t' n' = (true, t, IntKind.i64.wrap (n + n')) := by simp [cellDo]
theorem cellDo_0 {h : Bool} {t t' : ByteArray} {n d n' : Int} (h1 : d ≠ 1) (h2 : d ≠ 2) (h3 : d ≠ 3) : cellDo h t n d t' n' = (h, t, n) := by simp [cellDo, h1, h2, h3]

end Go.Proofs.YtfblpbihpmhgjaaDoor

namespace Go.Proofs.YtfblpbihpmhgjaaDoor
open Go.RowKit

theorem cmp_cases : ∀ (a b : List UInt8), (Lib.compareBytes a b = -1 ∧ Op.bytesLess a b = true ∧ a ≠ b) ∨ (Lib.compareBytes a b = 0 ∧ Op.bytesLess a b = false ∧ a = b) ∨ (Lib.compareBytes a b = 1 ∧ Op.bytesLess a b = false ∧ a ≠ b)
  | [], [] => Or.inr (Or.inl ⟨rfl, rfl, rfl⟩)
  | [], _ :: _ => Or.inl ⟨rfl, rfl, by simp⟩
  | _ :: _, [] => Or.inr (Or.inr ⟨rfl, rfl, by simp⟩)
  | x :: a, y :: b => by
    have ih := cmp_cases a b
    unfold Lib.compareBytes Op.bytesLess
    by_cases h1 : x < y
    · have hne : x ≠ y := fun e => UInt8.lt_irrefl y (e ▸ h1)
      exact Or.inl ⟨by simp [h1], by simp [h1], fun e => hne (by simpa using (List.cons.inj e).1)⟩
    · by_cases h2 : y < x
      · have hne : x ≠ y := fun e => UInt8.lt_irrefl y (e ▸ h2)
        exact Or.inr (Or.inr ⟨by simp [h1, h2], by simp [h1, hne], fun e => hne (by simpa using (List.cons.inj e).1)⟩)
      · have he : x = y := UInt8.le_antisymm (UInt8.not_lt.1 h2) (UInt8.not_lt.1 h1)
        subst he
        rcases ih with ⟨p, q, r⟩ | ⟨p, q, r⟩ | ⟨p, q, r⟩
        · exact Or.inl ⟨by simp [h1, p], by simp [q], by simpa using r⟩
        · exact Or.inr (Or.inl ⟨by simp [h1, p], by simp [h1, q], by simpa using r⟩)
        · exact Or.inr (Or.inr ⟨by simp [h1, p], by simp [h1, q], by simpa using r⟩)

/-- The first stands ahead. -/
def lessB (ka : ByteArray) (qa : Int) (kb : ByteArray) (qb : Int) : Bool :=
  Op.bytesLess ka.data.toList kb.data.toList || (decide (ka = kb) && decide (qb < qa))

end Go.Proofs.YtfblpbihpmhgjaaDoor

namespace Go.Proofs.YtfblpbihpmhgjaaDoor
open Go.RowKit

theorem bless_self : ∀ a : List UInt8, Op.bytesLess a a = false
  | [] => rfl
  | x :: a => by
    unfold Op.bytesLess
    have := bless_self a
    simp [this]
theorem bless_asymm : ∀ a b : List UInt8, Op.bytesLess a b = true → Op.bytesLess b a = false
  | [], [], h => by simp [Op.bytesLess] at h
  | [], _ :: _, _ => rfl
  | _ :: _, [], h => by simp [Op.bytesLess] at h
  | x :: a, y :: b, h => by
    unfold Op.bytesLess at h ⊢
    have ih := bless_asymm a b
    simp only [Bool.or_eq_true, decide_eq_true_eq, Bool.and_eq_true, beq_iff_eq] at h
    rcases h with h | ⟨rfl, h⟩
    · have h1 : ¬ y < x := fun g => UInt8.lt_asymm h g
      have h2 : ¬ y = x := fun g => UInt8.lt_irrefl x (by rw [g] at h; exact h)
      simp [h1, h2]
    · simp [ih h]
theorem bless_total : ∀ a b : List UInt8, a ≠ b → Op.bytesLess a b = true ∨ Op.bytesLess b a = true
  | [], [], h => absurd rfl h
  | [], _ :: _, _ => Or.inl rfl
  | _ :: _, [], _ => Or.inr rfl
  | x :: a, y :: b, h => by
    unfold Op.bytesLess
    by_cases h1 : x < y
    · left; simp [h1]
    · by_cases h2 : y < x
      · right; simp [h2]
      · have he : x = y := UInt8.le_antisymm (UInt8.not_lt.1 h2) (UInt8.not_lt.1 h1)
        subst he
        have ih := bless_total a b (fun e => h (by rw [e]))
        rcases ih with ih | ih
        · left; simp [ih]
        · right; simp [ih]
theorem bless_trans : ∀ a b c : List UInt8, Op.bytesLess a b = true → Op.bytesLess b c = true → Op.bytesLess a c = true
  | _, _, [], _, h => by simp [Op.bytesLess] at h
  | [], _, _ :: _, _, _ => rfl
  | _ :: _, [], _ :: _, h, _ => by simp [Op.bytesLess] at h
  | x :: a, y :: b, z :: c, h, k => by
    unfold Op.bytesLess at h k ⊢
    simp only [Bool.or_eq_true, decide_eq_true_eq, Bool.and_eq_true, beq_iff_eq] at h k ⊢
    rcases h with h | ⟨rfl, h⟩
    · rcases k with k | ⟨rfl, k⟩
      · exact Or.inl (UInt8.lt_trans h k)
      · exact Or.inl h
    · rcases k with k | ⟨rfl, k⟩
      · exact Or.inl k
      · exact Or.inr ⟨rfl, bless_trans a b c h k⟩

theorem lessB_self (k : ByteArray) (q : Int) : lessB k q k q = false := by
  unfold lessB
  simp [bless_self]
theorem lessB_true {ka kb : ByteArray} {qa qb : Int} (h : lessB ka qa kb qb = true) : Op.bytesLess ka.data.toList kb.data.toList = true ∨ (ka = kb ∧ qb < qa) := by
  unfold lessB at h
  simpa using h
theorem lessB_asymm {ka kb : ByteArray} {qa qb : Int} (h : lessB ka qa kb qb = true) : lessB kb qb ka qa = false := by
  rcases lessB_true h with h | ⟨rfl, h⟩
  · have h1 := bless_asymm _ _ h
    have h2 : ¬ kb = ka := fun e => by rw [e, bless_self] at h; cases h
    unfold lessB
    simp [h1, h2]
  · unfold lessB
    have : ¬ qa < qb := by omega
    simp [bless_self, this]
theorem lessB_trans {ka kb kc : ByteArray} {qa qb qc : Int} (h : lessB ka qa kb qb = true) (k : lessB kb qb kc qc = true) : lessB ka qa kc qc = true := by
  unfold lessB
  rcases lessB_true h with h | ⟨rfl, h⟩
  · rcases lessB_true k with k | ⟨rfl, k⟩
    · simp [bless_trans _ _ _ h k]
    · simp [h]
  · rcases lessB_true k with k | ⟨rfl, k⟩
    · simp [k]
    · have : qc < qa := by omega
      simp [this]
theorem lessB_one (ka kb : ByteArray) (qa qb : Int) : (lessB ka qa kb qb || lessB kb qb ka qa) = (decide (¬ ka = kb) || decide (¬ qa = qb)) := by
  by_cases he : ka = kb
  · subst he
    unfold lessB
    rw [bless_self]
    by_cases h1 : qb < qa
    · have : ¬ qa = qb := by omega
      simp [h1, this]
    · by_cases h2 : qa < qb
      · have : ¬ qa = qb := by omega
        simp [h2, this]
      · have : qa = qb := by omega
        simp [this]
  · have hne : ka.data.toList ≠ kb.data.toList := fun e => he (ByteArray.ext (Array.toList_inj.1 e))
    unfold lessB
    rcases bless_total _ _ hne with h | h <;> simp [h, he]

end Go.Proofs.YtfblpbihpmhgjaaDoor

namespace Go.Proofs.YtfblpbihpmhgjaaDoor
open Go.RowKit

def hstep (h : Nat) (b : UInt8) : Nat := (31 * h + b.toNat) % 65521
def hashN (l : List UInt8) : Nat := l.foldl hstep 7
def markN (h : Nat) : Nat := 2 ^ (h % 16) ||| 2 ^ (h / 16 % 16)
/-- The marks of a key. -/
def maskK (s : ByteArray) : Nat := markN (hashN s.data.toList)

theorem hash_step (s : ByteArray) (k : Nat) (h : k < s.size) : hashN (s.data.toList.take (k + 1)) = hstep (hashN (s.data.toList.take k)) s[k] := by
  rw [take_snoc_b s k h]; simp [hashN]
theorem hstep_lt (h : Nat) (b : UInt8) : hstep h b < 65521 := Nat.mod_lt _ (by omega)
theorem hash_lt (l : List UInt8) : hashN l < 65521 := by
  unfold hashN
  have : ∀ (l : List UInt8) (h : Nat), h < 65521 → l.foldl hstep h < 65521 := by
    intro l
    induction l with
    | nil => intro h hh; exact hh
    | cons a r ih => intro h _; exact ih _ (hstep_lt h a)
  exact this l 7 (by omega)
theorem pow_small {a : Nat} (h : a < 16) : 2 ^ a < 65536 := by
  have : 2 ^ a < 2 ^ 16 := Nat.pow_lt_pow_right (by omega) h
  exact this
theorem or_small {a b : Nat} (ha : a < 65536) (hb : b < 65536) : a ||| b < 65536 := Nat.or_lt_two_pow (n := 16) ha hb
theorem markN_lt (h : Nat) : markN h < 65536 := or_small (pow_small (Nat.mod_lt _ (by omega))) (pow_small (Nat.mod_lt _ (by omega)))
theorem maskK_lt (s : ByteArray) : maskK s < 65536 := markN_lt _

theorem or_step (a b i : Nat) : (a ||| b) / 2 ^ i = (a ||| b) / 2 ^ (i + 1) * 2 + (if a / 2 ^ i % 2 = 1 ∨ b / 2 ^ i % 2 = 1 then 1 else 0) := by
  have h1 : (a ||| b).testBit i = (a.testBit i || b.testBit i) := Nat.testBit_or ..
  rw [Nat.testBit_eq_decide_div_mod_eq, Nat.testBit_eq_decide_div_mod_eq, Nat.testBit_eq_decide_div_mod_eq] at h1
  have h2 : (a ||| b) / 2 ^ (i + 1) = (a ||| b) / 2 ^ i / 2 := by rw [Nat.pow_succ, Nat.div_div_eq_div_mul]
  rw [h2]
  by_cases h3 : a / 2 ^ i % 2 = 1 ∨ b / 2 ^ i % 2 = 1
  · rw [if_pos h3]
    have : (a ||| b) / 2 ^ i % 2 = 1 := by
      have : decide ((a ||| b) / 2 ^ i % 2 = 1) = true := by rw [h1]; simpa using h3
      exact of_decide_eq_true this
    omega
  · rw [if_neg h3]
    have : ¬ (a ||| b) / 2 ^ i % 2 = 1 := by
      have : decide ((a ||| b) / 2 ^ i % 2 = 1) = false := by
        rw [h1]
        have h4 : ¬ a / 2 ^ i % 2 = 1 := fun e => h3 (Or.inl e)
        have h5 : ¬ b / 2 ^ i % 2 = 1 := fun e => h3 (Or.inr e)
        simp [h4, h5]
      exact of_decide_eq_false this
    omega
theorem or_top {a b : Nat} (ha : a < 65536) (hb : b < 65536) : (a ||| b) / 2 ^ 16 = 0 := Nat.div_eq_of_lt (or_small ha hb)

/-- The marks of all keys. -/
def maskL (L : List EntD) : Nat := L.foldl (fun m e => m ||| maskK e.1) 0
theorem maskL_snoc {L : List EntD} {k : Nat} {e : EntD} (h : L[k]? = some e) : maskL (L.take (k + 1)) = maskL (L.take k) ||| maskK e.1 := by
  rw [List.take_add_one, h]; simp [maskL]
theorem maskL_lt (L : List EntD) : maskL L < 65536 := by
  have : ∀ (L : List EntD) (m : Nat), m < 65536 → L.foldl (fun m e => m ||| maskK e.1) m < 65536 := by
    intro L
    induction L with
    | nil => intro m h; exact h
    | cons a r ih => intro m h; exact ih _ (or_small h (maskK_lt _))
  exact this L 0 (by omega)

/-- Entry number j is ok, and stands behind the one ahead. -/
def okAt (L : List EntD) (j : Nat) : Bool :=
  match L[j]? with
  | none => true
  | some e => entB e.1 e.2.1 e.2.2.1 e.2.2.2.1 e.2.2.2.2 && (match j with | 0 => true | i + 1 => match L[i]? with | none => true | some d => lessB d.1 d.2.1 e.1 e.2.1)
def rightB (L : List EntD) : Bool := (List.range L.length).all (okAt L)
def RightTo (L : List EntD) (k : Nat) : Prop := ∀ j, j < k → okAt L j = true
theorem right_of {L : List EntD} {k : Nat} (h : RightTo L k) (hk : L.length ≤ k) : rightB L = true := by
  unfold rightB
  rw [List.all_eq_true]
  intro j hj
  exact h j (by have := List.mem_range.1 hj; omega)
theorem right_no {L : List EntD} {k : Nat} (hk : k < L.length) (h : okAt L k = false) : rightB L = false := by
  rw [Bool.eq_false_iff]
  intro h1
  unfold rightB at h1
  rw [List.all_eq_true] at h1
  rw [h1 k (List.mem_range.2 hk)] at h
  cases h
theorem right_snoc {L : List EntD} {k : Nat} (h : RightTo L k) (hk : okAt L k = true) : RightTo L (k + 1) := by
  intro j hj
  by_cases e : j = k
  · rw [e]; exact hk
  · exact h j (by omega)
theorem okAt_zero {L : List EntD} {e : EntD} (h : L[0]? = some e) : okAt L 0 = entB e.1 e.2.1 e.2.2.1 e.2.2.2.1 e.2.2.2.2 := by
  unfold okAt; rw [h]; simp
theorem okAt_succ {L : List EntD} {i : Nat} {d e : EntD} (h : L[i + 1]? = some e) (g : L[i]? = some d) : okAt L (i + 1) = (entB e.1 e.2.1 e.2.2.1 e.2.2.2.1 e.2.2.2.2 && lessB d.1 d.2.1 e.1 e.2.1) := by
  unfold okAt; simp only [h, g]
theorem okAt_ent {L : List EntD} {k : Nat} {e : EntD} (h : L[k]? = some e) (g : entB e.1 e.2.1 e.2.2.1 e.2.2.2.1 e.2.2.2.2 = false) : okAt L k = false := by
  unfold okAt; rw [h]; simp [g]

/-- A run that is right. -/
def runB (L : List EntD) (m : Int) : Bool := decide (1 ≤ L.length) && (decide (L.length ≤ 150) && (rightB L && decide (m = maskL L)))

theorem runB_few {L : List EntD} {m : Int} (h : L.length < 1) : runB L m = false := by
  have : decide (1 ≤ L.length) = false := decide_eq_false (by omega)
  simp [runB, this]
theorem runB_many {L : List EntD} {m : Int} (h : 150 < L.length) : runB L m = false := by
  have : decide (L.length ≤ 150) = false := decide_eq_false (by omega)
  simp [runB, this]
theorem runB_right {L : List EntD} {m : Int} (h : rightB L = false) : runB L m = false := by simp [runB, h]
theorem runB_mask {L : List EntD} {m : Int} (h1 : 1 ≤ L.length) (h2 : L.length ≤ 150) (h3 : rightB L = true) : runB L m = decide (m = maskL L) := by
  simp [runB, h1, h2, h3]
end Go.Proofs.YtfblpbihpmhgjaaDoor

namespace Go.Proofs.YtfblpbihpmhgjaaDoor
open Go.RowKit

theorem right_at {L : List EntD} (h : rightB L = true) (j : Nat) (hj : j < L.length) : okAt L j = true := by
  unfold rightB at h
  rw [List.all_eq_true] at h
  exact h j (List.mem_range.2 hj)
theorem right_ent {L : List EntD} (h : rightB L = true) {j : Nat} {e : EntD} (hj : L[j]? = some e) : entB e.1 e.2.1 e.2.2.1 e.2.2.2.1 e.2.2.2.2 = true := by
  have h1 := right_at h j (List.getElem?_eq_some_iff.1 hj).1
  cases g : entB e.1 e.2.1 e.2.2.1 e.2.2.2.1 e.2.2.2.2 with
  | true => rfl
  | false => rw [okAt_ent hj g] at h1; cases h1
theorem right_next {L : List EntD} (h : rightB L = true) {j : Nat} {d e : EntD} (hd : L[j]? = some d) (he : L[j + 1]? = some e) : lessB d.1 d.2.1 e.1 e.2.1 = true := by
  have h1 := right_at h (j + 1) (List.getElem?_eq_some_iff.1 he).1
  rw [okAt_succ he hd] at h1
  simp at h1
  exact h1.2
theorem right_less {L : List EntD} (h : rightB L = true) {i j : Nat} (hij : i < j) {d e : EntD} (hd : L[i]? = some d) (he : L[j]? = some e) : lessB d.1 d.2.1 e.1 e.2.1 = true := by
  induction j generalizing e with
  | zero => omega
  | succ j ih =>
    have hj : j < L.length := by have := (List.getElem?_eq_some_iff.1 he).1; omega
    have hg : L[j]? = some L[j] := List.getElem?_eq_getElem hj
    have hn := right_next h hg he
    by_cases e1 : i = j
    · subst e1
      rw [hg] at hd
      cases hd
      exact hn
    · exact lessB_trans (ih (by omega) hg) hn
theorem entB_seq {k t : ByteArray} {q d n : Int} (h : entB k q d t n = true) : 1 ≤ q ∧ q ≤ 100000 := by
  simp [entB] at h
  exact ⟨h.2.1, h.2.2.1⟩
theorem less_keys {ka kb : ByteArray} {qa qb : Int} (h : lessB ka qa kb qb = true) : Op.bytesLess kb.data.toList ka.data.toList = false := by
  rcases lessB_true h with h | ⟨rfl, _⟩
  · exact bless_asymm _ _ h
  · exact bless_self _

theorem or_and (a b : Nat) : decide (a ||| b = a) = decide (a &&& b = b) := by
  have : (a ||| b = a) ↔ (a &&& b = b) := by
    constructor
    · intro h
      apply Nat.eq_of_testBit_eq
      intro i
      have := congrArg (fun x => Nat.testBit x i) h
      simp only [Nat.testBit_or, Nat.testBit_and] at this ⊢
      cases h1 : a.testBit i <;> cases h2 : b.testBit i <;> simp_all
    · intro h
      apply Nat.eq_of_testBit_eq
      intro i
      have := congrArg (fun x => Nat.testBit x i) h
      simp only [Nat.testBit_or, Nat.testBit_and] at this ⊢
      cases h1 : a.testBit i <;> cases h2 : b.testBit i <;> simp_all
  simp [this]
theorem mask_has (L : List EntD) (e : EntD) (h : e ∈ L) : maskL L ||| maskK e.1 = maskL L := by
  have key : ∀ (L : List EntD) (m : Nat), (e ∈ L ∨ m ||| maskK e.1 = m) → (L.foldl (fun m e => m ||| maskK e.1) m) ||| maskK e.1 = L.foldl (fun m e => m ||| maskK e.1) m := by
    intro L
    induction L with
    | nil => intro m h; rcases h with h | h; · cases h
             exact h
    | cons a r ih =>
      intro m h
      refine ih _ ?_
      rcases h with h | h
      · rcases List.mem_cons.1 h with h | h
        · subst h
          right
          show m ||| maskK e.1 ||| maskK e.1 = m ||| maskK e.1
          rw [Nat.or_assoc, Nat.or_self]
        · exact Or.inl h
      · right
        show m ||| maskK a.1 ||| maskK e.1 = m ||| maskK a.1
        rw [Nat.or_assoc, Nat.or_comm (maskK a.1), ← Nat.or_assoc, h]
  exact key L 0 (Or.inl h)

/-- A key is in the range and all its marks are there. -/
def inB (L : List EntD) (key : ByteArray) : Bool :=
  match L[0]?, L[L.length - 1]? with
  | some f, some l => !Op.bytesLess key.data.toList f.1.data.toList && (!Op.bytesLess l.1.data.toList key.data.toList && decide (maskL L ||| maskK key = maskL L))
  | _, _ => false
/-- What a run may have. -/
def mayB (L : List EntD) (m : Int) (key : ByteArray) : Bool := runB L m && inB L key
theorem runB_parts {L : List EntD} {m : Int} (h : runB L m = true) : 1 ≤ L.length ∧ L.length ≤ 150 ∧ rightB L = true ∧ m = maskL L := by
  simpa [runB] using h
theorem may_mem {L : List EntD} {m : Int} (h : runB L m = true) {e : EntD} (he : e ∈ L) : mayB L m e.1 = true := by
  obtain ⟨h1, _, h3, _⟩ := runB_parts h
  obtain ⟨j, hj, rfl⟩ := List.getElem_of_mem he
  have hg : L[j]? = some L[j] := List.getElem?_eq_getElem hj
  have g0 : L[0]? = some L[0] := List.getElem?_eq_getElem (by omega)
  have gl : L[L.length - 1]? = some (L[L.length - 1]'(by omega)) := List.getElem?_eq_getElem (by omega)
  unfold mayB inB
  rw [h, g0, gl]
  have a1 : Op.bytesLess (L[j]).1.data.toList (L[0]).1.data.toList = false := by
    by_cases e0 : j = 0
    · subst e0; exact bless_self _
    · exact less_keys (right_less h3 (by omega : 0 < j) g0 hg)
  have a2 : Op.bytesLess (L[L.length - 1]'(by omega)).1.data.toList (L[j]).1.data.toList = false := by
    by_cases e0 : j = L.length - 1
    · subst e0; exact bless_self _
    · exact less_keys (right_less h3 (by omega : j < L.length - 1) hg gl)
  simp [a1, a2, mask_has L _ he]
/-- What is found of a key up to a time. -/
def findL (L : List EntD) (key : ByteArray) (seq : Int) : List EntD := L.filter (fun e => decide (e.1 = key) && decide (e.2.1 ≤ seq))
theorem find_none {L : List EntD} {m : Int} {key : ByteArray} (h : runB L m = true) (h1 : mayB L m key = false) (seq : Int) : findL L key seq = [] := by
  unfold findL
  rw [List.filter_eq_nil_iff]
  intro e he
  have := may_mem h he
  simp
  intro e1
  rw [e1, h1] at this
  cases this

/-- In entries in order, what is found of a key is the stretch from the first that is not ahead of it and that time to the first that is not ahead of it and the time 0. -/
theorem find_stretch {L : List EntD} (h : rightB L = true) {key : ByteArray} {seq : Int} {i j : Nat} (hi : i ≤ L.length) (hj : j ≤ L.length)
    (i1 : ∀ p e, L[p]? = some e → p < i → lessB e.1 e.2.1 key seq = true) (i2 : ∀ p e, L[p]? = some e → i ≤ p → lessB e.1 e.2.1 key seq = false)
    (j1 : ∀ p e, L[p]? = some e → p < j → lessB e.1 e.2.1 key 0 = true) (j2 : ∀ p e, L[p]? = some e → j ≤ p → lessB e.1 e.2.1 key 0 = false) :
    i ≤ j ∧ findL L key seq = (L.drop i).take (j - i) := by
  have hij : i ≤ j := by
    by_cases h1 : i ≤ j
    · exact h1
    · exfalso
      have hjl : j < L.length := by omega
      have g := List.getElem?_eq_getElem hjl
      have a := i1 j _ g (by omega)
      have b := j2 j _ g (Nat.le_refl _)
      have c := entB_seq (right_ent h g)
      rcases lessB_true a with a | ⟨a, a'⟩
      · unfold lessB at b; rw [a] at b; simp at b
      · unfold lessB at b
        have : decide ((0 : Int) < L[j].2.1) = true := decide_eq_true (by omega)
        rw [this] at b
        simp [a] at b
  refine ⟨hij, ?_⟩
  have split : L = L.take i ++ ((L.drop i).take (j - i) ++ L.drop j) := by
    have : (L.drop i).drop (j - i) = L.drop j := by rw [List.drop_drop]; congr 1; omega
    rw [← this, List.take_append_drop, List.take_append_drop]
  unfold findL
  have f1 : (L.take i).filter (fun e => decide (e.1 = key) && decide (e.2.1 ≤ seq)) = [] := by
    rw [List.filter_eq_nil_iff]
    intro e he
    obtain ⟨p, hp, rfl⟩ := List.getElem_of_mem he
    simp at hp
    have g : L[p]? = some L[p] := List.getElem?_eq_getElem (by omega)
    have a := i1 p _ g (by omega)
    simp only [List.getElem_take]
    rcases lessB_true a with a | ⟨a, a'⟩
    · have : ¬ L[p].1 = key := fun e => by rw [e, bless_self] at a; cases a
      simp [this]
    · have : ¬ L[p].2.1 ≤ seq := by omega
      simp [this]
  have f3 : (L.drop j).filter (fun e => decide (e.1 = key) && decide (e.2.1 ≤ seq)) = [] := by
    rw [List.filter_eq_nil_iff]
    intro e he
    obtain ⟨p, hp, rfl⟩ := List.getElem_of_mem he
    simp at hp
    have g : L[j + p]? = some (L[j + p]'(by omega)) := List.getElem?_eq_getElem (by omega)
    have b := j2 (j + p) _ g (by omega)
    have c := entB_seq (right_ent h g)
    simp only [List.getElem_drop]
    have : ¬ (L[j + p]'(by omega)).1 = key := fun e => by
      unfold lessB at b
      have : decide ((0 : Int) < (L[j + p]'(by omega)).2.1) = true := decide_eq_true (by omega)
      rw [this, e, bless_self] at b
      simp at b
    simp [this]
  have f2 : ((L.drop i).take (j - i)).filter (fun e => decide (e.1 = key) && decide (e.2.1 ≤ seq)) = (L.drop i).take (j - i) := by
    rw [List.filter_eq_self]
    intro e he
    obtain ⟨p, hp, rfl⟩ := List.getElem_of_mem he
    simp at hp
    have hq : i + p < L.length := by omega
    have g : L[i + p]? = some (L[i + p]'hq) := List.getElem?_eq_getElem hq
    have a := i2 (i + p) _ g (by omega)
    have b := j1 (i + p) _ g (by omega)
    simp only [List.getElem_take, List.getElem_drop]
    have hk : (L[i + p]'hq).1 = key := by
      rcases lessB_true b with b | ⟨b, _⟩
      · exfalso
        unfold lessB at a
        rw [b] at a
        simp at a
      · exact b
    have hs : (L[i + p]'hq).2.1 ≤ seq := by
      unfold lessB at a
      rw [hk, bless_self] at a
      simp at a
      exact a
    simp [hk, hs]
  rw [split, List.filter_append, List.filter_append, f1, f2, f3]
  rw [← split]
  simp
theorem find_snoc_yes {L : List EntD} {key : ByteArray} {seq : Int} {k : Nat} {e : EntD} (h : L[k]? = some e) (h1 : e.1 = key) (h2 : e.2.1 ≤ seq) : findL (L.take (k + 1)) key seq = findL (L.take k) key seq ++ [e] := by
  rw [List.take_add_one, h]; simp [findL, h1, h2]
theorem find_snoc_no {L : List EntD} {key : ByteArray} {seq : Int} {k : Nat} {e : EntD} (h : L[k]? = some e) (h1 : ¬ (e.1 = key ∧ e.2.1 ≤ seq)) : findL (L.take (k + 1)) key seq = findL (L.take k) key seq := by
  rw [List.take_add_one, h]
  simp only [findL, List.filter_append, Option.toList_some]
  have : List.filter (fun e => decide (e.1 = key) && decide (e.2.1 ≤ seq)) [e] = [] := by
    rw [List.filter_eq_nil_iff]
    intro x hx
    simp only [List.mem_singleton] at hx
    subst hx
    simp only [Bool.and_eq_true, decide_eq_true_eq]
    exact h1
  rw [this, List.append_nil]
theorem find_len (L : List EntD) (key : ByteArray) (seq : Int) : (findL L key seq).length ≤ L.length := List.length_filter_le _ _
theorem find_mem {L : List EntD} {key : ByteArray} {seq : Int} {e : EntD} (h : e ∈ findL L key seq) : e ∈ L := (List.mem_filter.1 h).1
end Go.Proofs.YtfblpbihpmhgjaaDoor
