/-
  Plain: the parts of a list that stand in order. No statement of the program stands here.
-/
import Derived.Test.YtlmgojlffgkciaaGreatGaXMgS
namespace Go.Proofs.YtlmgojlffgkciaaGreat
abbrev StrS (n : Nat) : Type := { p : Nat × Nat // p.1 < p.2 ∧ p.2 ≤ n }
def segS (L : List EntD) {n : Nat} (p : StrS n) : List EntD := (L.drop p.1.1).take (p.1.2 - p.1.1)
def AllS (L : List EntD) {n : Nat} (ys : List (StrS n)) : Prop := (ys.map (segS L)).flatten = L ∧ ∀ l ∈ ys.map (segS L), l ≠ [] ∧ Mg.Asc lessE l
theorem asc_one (L : List EntD) (f : Nat) : Mg.Asc lessE ((L.drop f).take (f + 1 - f)) := by
  rw [Nat.add_sub_cancel_left]
  unfold Mg.Asc
  rw [List.pairwise_iff_getElem]
  intro i j hi hj hij
  have h1 : j < 1 := Nat.lt_of_lt_of_le hj (List.length_take_le _ _)
  omega
theorem asc_more {L : List EntD} {f t : Nat} {x y : EntD} (hf : f < t) (hx : L[t - 1]? = some x) (hy : L[t]? = some y) (hA : Mg.Asc lessE ((L.drop f).take (t - f))) (h : lessE y x = false) : Mg.Asc lessE ((L.drop f).take (t + 1 - f)) := by
  obtain ⟨hxl, hxe⟩ := List.getElem?_eq_some_iff.1 hx
  obtain ⟨hyl, hye⟩ := List.getElem?_eq_some_iff.1 hy
  unfold Mg.Asc at hA ⊢
  rw [List.pairwise_iff_getElem] at hA ⊢
  intro i j hi hj hij
  have hj' := hj
  have hi' := hi
  rw [List.length_take, List.length_drop] at hj' hi'
  rw [List.getElem_take, List.getElem_drop, List.getElem_take, List.getElem_drop]
  by_cases h1 : j < t - f
  · have := hA i j (by rw [List.length_take, List.length_drop]; omega) (by rw [List.length_take, List.length_drop]; omega) hij
    rw [List.getElem_take, List.getElem_drop, List.getElem_take, List.getElem_drop] at this
    exact this
  · have e1 : f + j = t := by omega
    have e2 : L[f + j]'(by omega) = y := by
      have := List.getElem?_eq_getElem (l := L) (i := f + j) (by omega)
      exact Option.some.inj (this.symm.trans (by rw [e1]; exact hy))
    rw [e2]
    by_cases h2 : i = t - 1 - f
    · have e3 : f + i = t - 1 := by omega
      have e4 : L[f + i]'(by omega) = x := by
        have := List.getElem?_eq_getElem (l := L) (i := f + i) (by omega)
        exact Option.some.inj (this.symm.trans (by rw [e3]; exact hx))
      rw [e4]
      exact h
    · have := hA i (t - 1 - f) (by rw [List.length_take, List.length_drop]; omega) (by rw [List.length_take, List.length_drop]; omega) (by omega)
      rw [List.getElem_take, List.getElem_drop, List.getElem_take, List.getElem_drop] at this
      have e4 : L[f + (t - 1 - f)]'(by omega) = x := by
        have h5 := List.getElem?_eq_getElem (l := L) (i := f + (t - 1 - f)) (by omega)
        exact Option.some.inj (h5.symm.trans (by rw [show f + (t - 1 - f) = t - 1 by omega]; exact hx))
      rw [e4] at this
      exact lessE_ntrans h this
def UpS (L : List EntD) {n : Nat} (f : Nat) (ys : List (StrS n)) : Prop := (ys.map (segS L)).flatten = L.take f ∧ ∀ l ∈ ys.map (segS L), l ≠ [] ∧ Mg.Asc lessE l
theorem UpS.zero (L : List EntD) {n : Nat} : UpS L 0 ([] : List (StrS n)) := ⟨rfl, fun l hl => by cases hl⟩
theorem UpS.step {L : List EntD} {n f t : Nat} {ys : List (StrS n)} (h : UpS L f ys) (hL : L.length = n) (hft : f < t) (htn : t ≤ n) (hA : Mg.Asc lessE ((L.drop f).take (t - f))) : UpS L t (ys ++ [⟨(f, t), hft, htn⟩]) := by
  refine ⟨?_, fun l hl => ?_⟩
  · rw [List.map_append, List.flatten_append, h.1]
    simp only [List.map_cons, List.map_nil, List.flatten_cons, List.flatten_nil, List.append_nil]
    show L.take f ++ (L.drop f).take (t - f) = _
    rw [show L.take t = L.take (f + (t - f)) by rw [show f + (t - f) = t by omega], List.take_add]
  · rw [List.map_append] at hl
    rcases List.mem_append.1 hl with h1 | h1
    · exact h.2 l h1
    · simp only [List.map_cons, List.map_nil, List.mem_singleton] at h1
      subst h1
      refine ⟨fun e => ?_, hA⟩
      have : ((L.drop f).take (t - f)).length = 0 := by
        have e' : (L.drop f).take (t - f) = [] := e
        rw [e']; rfl
      rw [List.length_take, List.length_drop] at this
      omega
theorem UpS.done {L : List EntD} {n : Nat} {ys : List (StrS n)} (h : UpS L n ys) (hL : L.length = n) : AllS L ys := ⟨by rw [h.1, List.take_of_length_le (by omega)], h.2⟩
end Go.Proofs.YtlmgojlffgkciaaGreat
