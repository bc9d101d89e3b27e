/-
  The text of a batch that was done, plain; no statement of the program stands here.
-/
import Derived.Test.YtfblpbihpmhgjaaDoorFr03
import Derived.Lib.ItoaLen
namespace Go.Proofs.YtfblpbihpmhgjaaDoor
open Go.RowKit

def entOk (e : EntD) : Bool := entB e.1 e.2.1 e.2.2.1 e.2.2.2.1 e.2.2.2.2
def stepB (L : List EntD) : Nat → Bool
  | 0 => match L[0]? with
    | none => true
    | some e => entOk e
  | j + 1 => match L[j + 1]?, L[j]? with
    | some e, some p => entOk e && decide (e.2.1 = p.2.1 + 1)
    | _, _ => true
def stepsB (L : List EntD) (k : Nat) : Bool := (List.range k).all (stepB L)
def doneB (L : List EntD) : Bool := decide (1 ≤ L.length) && (decide (L.length ≤ 12) && stepsB L L.length)
theorem steps_succ (L : List EntD) (k : Nat) : stepsB L (k + 1) = (stepsB L k && stepB L k) := by
  simp [stepsB, List.range_succ]
theorem steps_snoc {L : List EntD} {k : Nat} (h : stepsB L k = true) (h1 : stepB L k = true) : stepsB L (k + 1) = true := by rw [steps_succ, h, h1]; rfl
theorem steps_no {L : List EntD} {k : Nat} (hk : k < L.length) (h : stepB L k = false) : stepsB L L.length = false := by
  unfold stepsB
  rw [List.all_eq_false]
  exact ⟨k, by simpa using hk, by simp [h]⟩
theorem step_zero {L : List EntD} {e : EntD} (h : L[0]? = some e) : stepB L 0 = entOk e := by simp only [stepB, h]
theorem step_ent {L : List EntD} {k : Nat} {e : EntD} (h : L[k]? = some e) (hv : entOk e = false) : k = 0 ∨ (∃ p, L[k - 1]? = some p) → stepB L k = false := by
  intro hp
  cases k with
  | zero => rw [step_zero h, hv]
  | succ j =>
    rcases hp with hp | ⟨p, hp⟩
    · omega
    · simp only [Nat.add_sub_cancel] at hp
      simp only [stepB, h, hp, hv, Bool.false_and]
theorem step_ent' {L : List EntD} {k : Nat} {e : EntD} (h : L[k]? = some e) (hv : entOk e = false) : stepB L k = false := by
  apply step_ent h hv
  cases k with
  | zero => exact Or.inl rfl
  | succ j =>
    have := (List.getElem?_eq_some_iff.1 h).1
    exact Or.inr ⟨L[j], by simp only [Nat.add_sub_cancel]; exact List.getElem?_eq_getElem (by omega)⟩
theorem step_succ {L : List EntD} {j : Nat} {e p : EntD} (h : L[j + 1]? = some e) (hp : L[j]? = some p) : stepB L (j + 1) = (entOk e && decide (e.2.1 = p.2.1 + 1)) := by simp only [stepB, h, hp]
theorem steps_ok {L : List EntD} {k j : Nat} {e : EntD} (h : stepsB L k = true) (hj : j < k) (he : L[j]? = some e) : entOk e = true := by
  unfold stepsB at h
  have h1 := List.all_eq_true.1 h j (by simpa using hj)
  cases hv : entOk e with
  | true => rfl
  | false => rw [step_ent' he hv] at h1; cases h1
theorem done_few {L : List EntD} (h : L.length < 1) : doneB L = false := by unfold doneB; rw [decide_eq_false (by omega)]; rfl
theorem done_many {L : List EntD} (h : 12 < L.length) : doneB L = false := by unfold doneB; rw [decide_eq_false (p := L.length ≤ 12) (by omega)]; simp
theorem done_no {L : List EntD} {k : Nat} (hk : k < L.length) (h : stepB L k = false) : doneB L = false := by unfold doneB; rw [steps_no hk h]; simp
theorem done_yes {L : List EntD} (h1 : 1 ≤ L.length) (h2 : L.length ≤ 12) (h : stepsB L L.length = true) : doneB L = true := by unfold doneB; rw [decide_eq_true h1, decide_eq_true h2, h]; rfl
theorem done_all {L : List EntD} (h : stepsB L L.length = true) : doneB L = (decide (1 ≤ L.length) && decide (L.length ≤ 12)) := by unfold doneB; rw [h]; simp
theorem done_parts {L : List EntD} (h : doneB L = true) : 1 ≤ L.length ∧ L.length ≤ 12 ∧ ∀ e ∈ L, entOk e = true := by
  simp only [doneB, Bool.and_eq_true, decide_eq_true_eq] at h
  refine ⟨h.1, h.2.1, fun e he => ?_⟩
  obtain ⟨j, hj⟩ := List.mem_iff_getElem?.1 he
  exact steps_ok h.2.2 (List.getElem?_eq_some_iff.1 hj).1 hj

/-- What is written of an entry. -/
def entT (e : EntD) : List UInt8 := e.1.data.toList ++ 32 :: (Lib.itoa e.2.1 ++ 32 :: (Lib.itoa e.2.2.1 ++ 32 :: (Lib.itoa e.2.2.2.2 ++ 32 :: (Lib.itoa (e.2.2.2.1.size : Int) ++ 32 :: e.2.2.2.1.data.toList))))
def entsT : List EntD → List UInt8
  | [] => []
  | e :: r => entT e ++ entsT r
def frameB (L : List EntD) : ByteArray := if doneB L = true then ⟨(Lib.itoa ((entsT L).length : Int) ++ 32 :: (entsT L ++ [10])).toArray⟩ else ⟨#[]⟩
theorem entsT_append (A B : List EntD) : entsT (A ++ B) = entsT A ++ entsT B := by
  induction A with
  | nil => rfl
  | cons l r ih => simp [entsT, ih]
theorem entsT_take {L : List EntD} {k : Nat} {l : EntD} (h : L[k]? = some l) : entsT (L.take (k + 1)) = entsT (L.take k) ++ entT l := by
  rw [List.take_add_one, h, entsT_append]
  simp [entsT]
theorem ent_parts {e : EntD} (h : entOk e = true) : e.1.size ≤ 8 ∧ 1 ≤ e.2.1 ∧ e.2.1 ≤ 100000 ∧ 1 ≤ e.2.2.1 ∧ e.2.2.1 ≤ 3 ∧ -1000000 ≤ e.2.2.2.2 ∧ e.2.2.2.2 ≤ 1000000 ∧ e.2.2.2.1.size ≤ 60 := by
  obtain ⟨k, q, d, t, n⟩ := e
  unfold entOk at h
  have hk : k.size ≤ 8 := by
    rcases Nat.lt_or_ge 8 k.size with h' | h'
    · rw [entB_key (keyB_big k h')] at h; cases h
    · exact h'
  have a1 : 1 ≤ q := by
    rcases Int.lt_or_le q 1 with h' | h'
    · rw [entB_q1 h'] at h; cases h
    · exact h'
  have a2 : q ≤ 100000 := by
    rcases Int.lt_or_le 100000 q with h' | h'
    · rw [entB_q2 h'] at h; cases h
    · exact h'
  have a3 : -1000000 ≤ n := by
    rcases Int.lt_or_le n (-1000000) with h' | h'
    · rw [entB_n1 h'] at h; cases h
    · exact h'
  have a4 : n ≤ 1000000 := by
    rcases Int.lt_or_le 1000000 n with h' | h'
    · rw [entB_n2 h'] at h; cases h
    · exact h'
  have a5 : t.size ≤ 60 := by
    rcases Nat.lt_or_ge 60 t.size with h' | h'
    · rw [entB_t h'] at h; cases h
    · exact h'
  have hk' : keyB k = true := by
    cases hk' : keyB k with
    | true => rfl
    | false => rw [entB_key hk'] at h; cases h
  rw [entB_rest hk' a1 a2 a3 a4 a5] at h
  have a6 : 1 ≤ d ∧ d ≤ 3 := by
    by_cases d1 : d = 1
    · omega
    by_cases d2 : d = 2
    · omega
    by_cases d3 : d = 3
    · omega
    rw [kindB_0 d1 d2 d3] at h
    cases h
  exact ⟨hk, a1, a2, a6.1, a6.2, a3, a4, a5⟩
theorem bytes_len (s : ByteArray) : s.data.toList.length = s.size := by rw [Array.length_toList]; rfl
theorem entT_len {e : EntD} (h : entOk e = true) : (entT e).length ≤ 160 := by
  obtain ⟨h1, h2, h3, h4, h5, h6, h7, h8⟩ := ent_parts h
  have e1 := Lib.itoa_length_le e.2.1 (by omega) (by omega)
  have e2 := Lib.itoa_length_le e.2.2.1 (by omega) (by omega)
  have e3 := Lib.itoa_length_le e.2.2.2.2 (by omega) (by omega)
  have e4 := Lib.itoa_length_le (e.2.2.2.1.size : Int) (by omega) (by omega)
  simp only [entT, List.length_append, List.length_cons, bytes_len]
  omega
theorem entsT_len : ∀ (L : List EntD), (∀ e ∈ L, entOk e = true) → (entsT L).length ≤ 160 * L.length
  | [], _ => by simp [entsT]
  | l :: r, h => by
    have h1 := entT_len (h l (by simp))
    have h2 := entsT_len r (fun x hx => h x (by simp [hx]))
    simp only [entsT, List.length_append, List.length_cons]
    omega
theorem frameB_no {L : List EntD} (h : doneB L = false) : frameB L = ⟨#[]⟩ := by unfold frameB; rw [h]; simp
theorem frameB_yes {L : List EntD} (h : doneB L = true) : frameB L = ⟨(Lib.itoa ((entsT L).length : Int) ++ 32 :: (entsT L ++ [10])).toArray⟩ := by unfold frameB; rw [if_pos h]

end Go.Proofs.YtfblpbihpmhgjaaDoor
