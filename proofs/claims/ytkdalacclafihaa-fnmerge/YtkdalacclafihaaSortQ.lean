/-
  Plain: entries put in order one by one, and any other way, are the same where no two are alike; no statement of the program stands here.
-/
import Derived.Test.YtkdalacclafihaaPutE
import Derived.Test.YtkdalacclafihaaOrderX
namespace Go.Proofs.Ytkdalacclafihaa
open Go.RowKit Go.Sort

/-- The first stands ahead. -/
def lessE (x y : EntD) : Bool := lessB x.1 x.2.1 y.1 y.2.1
theorem lessE_ntrans {x y z : EntD} (h1 : lessE x y = false) (h2 : lessE y z = false) : lessE x z = false := by
  have := less_swo.ntrans x y z
  rw [ltOf_less, ltOf_less, ltOf_less] at this
  exact this h1 h2
/-- None stands ahead of an earlier one. -/
def Weak (L : List EntD) : Prop := L.Pairwise (fun a b => lessE b a = false)
def Strict (L : List EntD) : Prop := L.Pairwise (fun a b => lessE a b = true)

theorem plE_right (L : List EntD) (e : EntD) : ∀ n p x, plE L e n ≤ p → p < n → L[p]? = some x → lessE e x = true
  | 0, p, x, _, h2, _ => absurd h2 (Nat.not_lt_zero _)
  | n + 1, p, x, h1, h2, h3 => by
    unfold plE at h1
    cases hn : L[n]? with
    | none => rw [hn] at h1; simp at h1; omega
    | some y =>
      rw [hn] at h1
      simp only at h1
      by_cases hl : lessB e.1 e.2.1 y.1 y.2.1 = true
      · rw [if_pos hl] at h1
        by_cases hp : p = n
        · subst hp
          rw [hn] at h3
          cases h3
          exact hl
        · exact plE_right L e n p x h1 (by omega) h3
      · rw [if_neg hl] at h1
        omega
theorem plE_left (L : List EntD) (e : EntD) : ∀ n x, 0 < plE L e n → L[plE L e n - 1]? = some x → n ≤ L.length → lessE e x = false
  | 0, x, h1, _, _ => absurd h1 (Nat.lt_irrefl _)
  | n + 1, x, h1, h2, h3 => by
    have hn : L[n]? = some (L[n]'(by omega)) := List.getElem?_eq_getElem (by omega)
    by_cases hl : lessB e.1 e.2.1 (L[n]'(by omega)).1 (L[n]'(by omega)).2.1 = true
    · have e1 : plE L e (n + 1) = plE L e n := by
        conv => lhs; unfold plE
        simp only [hn, hl, if_true]
      rw [e1] at h1 h2
      exact plE_left L e n x h1 h2 (by omega)
    · have e1 : plE L e (n + 1) = n + 1 := by
        conv => lhs; unfold plE
        simp only [hn, hl]
        simp
      rw [e1] at h2
      simp only [Nat.add_sub_cancel] at h2
      rw [hn] at h2
      cases h2
      simpa [lessE] using hl
theorem weak_put {L : List EntD} {e : EntD} (h : Weak L) : Weak (putE L e) := by
  have hle := plE_le L e L.length
  obtain ⟨k, hk⟩ : ∃ k, k = plE L e L.length := ⟨_, rfl⟩
  have hR : ∀ y ∈ L.drop k, lessE e y = true := by
    intro y hy
    obtain ⟨p, hp, rfl⟩ := List.getElem_of_mem hy
    simp at hp
    refine plE_right L e L.length (k + p) _ (by omega) (by omega) ?_
    rw [List.getElem?_eq_getElem (by omega)]
    simp
  have hL : ∀ x ∈ L.take k, lessE e x = false := by
    intro x hx
    obtain ⟨p, hp, rfl⟩ := List.getElem_of_mem hx
    simp at hp
    have hk1 : 0 < k := by omega
    have hkl : k - 1 < L.length := by omega
    have h1 : lessE e (L[k - 1]'hkl) = false := plE_left L e L.length _ (by omega) (by rw [← hk]; exact List.getElem?_eq_getElem hkl) (Nat.le_refl _)
    simp only [List.getElem_take]
    by_cases hpk : p = k - 1
    · subst hpk; exact h1
    · have h2 := (List.pairwise_iff_getElem.1 h) p (k - 1) (by omega) hkl (by omega)
      exact lessE_ntrans h1 h2
  have hsp : Weak (L.take k ++ L.drop k) := by rw [List.take_append_drop]; exact h
  have hsp' := List.pairwise_append.1 hsp
  unfold putE
  rw [← hk]
  refine List.pairwise_append.2 ⟨hsp'.1, ?_, ?_⟩
  · refine List.pairwise_append.2 ⟨List.pairwise_singleton _ _, hsp'.2.1, ?_⟩
    intro a ha b hb
    simp only [List.mem_singleton] at ha
    subst ha
    exact lessB_asymm (hR b hb)
  · intro a ha b hb
    rcases List.mem_append.1 hb with hb | hb
    · simp only [List.mem_singleton] at hb
      subst hb
      exact hL a ha
    · exact hsp'.2.2 a ha b hb
theorem put_perm (L : List EntD) (e : EntD) : (putE L e).Perm (L ++ [e]) := by
  unfold putE
  generalize plE L e L.length = k
  have h1 : (L.take k ++ ([e] ++ L.drop k)).Perm (L.take k ++ (L.drop k ++ [e])) := List.Perm.append_left _ List.perm_append_comm
  have h2 : L.take k ++ (L.drop k ++ [e]) = L ++ [e] := by rw [← List.append_assoc, List.take_append_drop]
  rw [h2] at h1
  exact h1
theorem sort_both (L : List EntD) : Weak (sortE L) ∧ (sortE L).Perm L := by
  have : ∀ (L A : List EntD), Weak A → Weak (L.foldl putE A) ∧ (L.foldl putE A).Perm (A ++ L) := by
    intro L
    induction L with
    | nil => intro A h; exact ⟨h, by simp⟩
    | cons e r ih =>
      intro A h
      obtain ⟨h1, h2⟩ := ih (putE A e) (weak_put h)
      refine ⟨h1, ?_⟩
      rw [List.foldl_cons]
      refine h2.trans ?_
      have := (put_perm A e).append_right r
      simpa using this
  have h := this L [] List.Pairwise.nil
  simpa [sortE] using h
theorem strict_weak {A B : List EntD} (hA : Strict A) (hB : Weak B) (hP : A.Perm B) : A = B := by
  induction A generalizing B with
  | nil => exact (List.Perm.nil_eq hP)
  | cons a A ih =>
    cases B with
    | nil => exact absurd hP.length_eq (by simp)
    | cons b B =>
      have hab : a = b := by
        by_cases e : a = b
        · exact e
        · exfalso
          have hb : b ∈ a :: A := hP.mem_iff.2 (List.mem_cons_self ..)
          have ha : a ∈ b :: B := hP.mem_iff.1 (List.mem_cons_self ..)
          have hb' : b ∈ A := (List.mem_cons.1 hb).resolve_left (fun h => e h.symm)
          have ha' : a ∈ B := (List.mem_cons.1 ha).resolve_left e
          have h1 := (List.pairwise_cons.1 hA).1 b hb'
          have h2 := (List.pairwise_cons.1 hB).1 a ha'
          rw [h1] at h2
          cases h2
      subst hab
      rw [ih (List.pairwise_cons.1 hA).2 (List.pairwise_cons.1 hB).2 (List.Perm.cons_inv hP)]
theorem right_strict {L : List EntD} (h : rightB L = true) : Strict L := by
  refine List.pairwise_iff_getElem.2 ?_
  intro i j hi hj hij
  exact right_less h hij (List.getElem?_eq_getElem hi) (List.getElem?_eq_getElem hj)
/-- Sorted otherwise, entries are right just if they are so sorted one by one; and then they are the same. -/
theorem sorted_same {L D : List EntD} (hW : Weak D) (hP : D.Perm L) : rightB D = rightB (sortE L) ∧ (rightB D = true → D = sortE L) := by
  obtain ⟨sW, sP⟩ := sort_both L
  have hDS : D.Perm (sortE L) := hP.trans sP.symm
  cases h1 : rightB D with
  | true =>
    have e := strict_weak (right_strict h1) sW hDS
    exact ⟨by rw [← e]; exact h1.symm, fun _ => e⟩
  | false =>
    cases h2 : rightB (sortE L) with
    | false => exact ⟨rfl, fun h => by cases h⟩
    | true =>
      have e := strict_weak (right_strict h2) hW hDS.symm
      rw [← e, h2] at h1
      cases h1
end Go.Proofs.Ytkdalacclafihaa
