/-
  Plain: entries put in order one by one, and any other way, are the same where no two are alike; no statement of the program stands here.
  Plain: what a heap of stretches gives out is what the document's sorting makes of all. No statement of the program stands here.
  Plain: the parts of a list that stand in order. No statement of the program stands here.
  Plain: entries of unlike times that are merged stand in order, in whatever order their lists came. No statement of the program stands here.
-/
import Derived.Test.YthhiahjafhkbbaaGreatBn19
import Derived.Test.YthhiahjafhkbbaaGreatBn17
import Derived.Test.YthhiahjafhkbbaaGreatBn30
import Derived.Test.YthhiahjafhkbbaaGreatBn10
namespace Go.Proofs.YthhiahjafhkbbaaGreat
open Go.RowKit Go.Sort

/-- The first stands ahead. -/
def lessE (x y : EntD) : Bool := lessB x.1 x.2.1 y.1 y.2.1
theorem lessE_ntrans {x y z : EntD} (h1 : lessE x y = false) (h2 : lessE y z = false) : lessE x z = false := by
  have := less_swo.ntrans x y z
  rw [ltOf_less, ltOf_less, ltOf_less] at this
  exact this h1 h2
/-- None stands ahead of an earlier one. -/
def Weak (L : List EntD) : Prop := L.Pairwise (fun a b => lessE b a = false)
def Strict (L : List EntD) : Prop := L.Pairwise (fun a b => lessE a b = true)

theorem plE_right (L : List EntD) (e : EntD) : ∀ n p x, plE L e n ≤ p → p < n → L[p]? = some x → lessE e x = true
  | 0, p, x, _, h2, _ => absurd h2 (Nat.not_lt_zero _)
  | n + 1, p, x, h1, h2, h3 => by
    unfold plE at h1
    cases hn : L[n]? with
    | none => rw [hn] at h1; simp at h1; omega
    | some y =>
      rw [hn] at h1
      simp only at h1
      by_cases hl : lessB e.1 e.2.1 y.1 y.2.1 = true
      · rw [if_pos hl] at h1
        by_cases hp : p = n
        · subst hp
          rw [hn] at h3
          cases h3
          exact hl
        · exact plE_right L e n p x h1 (by omega) h3
      · rw [if_neg hl] at h1
        omega
theorem plE_left (L : List EntD) (e : EntD) : ∀ n x, 0 < plE L e n → L[plE L e n - 1]? = some x → n ≤ L.length → lessE e x = false
  | 0, x, h1, _, _ => absurd h1 (Nat.lt_irrefl _)
  | n + 1, x, h1, h2, h3 => by
    have hn : L[n]? = some (L[n]'(by omega)) := List.getElem?_eq_getElem (by omega)
    by_cases hl : lessB e.1 e.2.1 (L[n]'(by omega)).1 (L[n]'(by omega)).2.1 = true
    · have e1 : plE L e (n + 1) = plE L e n := by
        conv => lhs; unfold plE
        simp only [hn, hl, if_true]
      rw [e1] at h1 h2
      exact plE_left L e n x h1 h2 (by omega)
    · have e1 : plE L e (n + 1) = n + 1 := by
        conv => lhs; unfold plE
        simp only [hn, hl]
        simp
      rw [e1] at h2
      simp only [Nat.add_sub_cancel] at h2
      rw [hn] at h2
      cases h2
      simpa [lessE] using hl
theorem weak_put {L : List EntD} {e : EntD} (h : Weak L) : Weak (putE L e) := by
  have hle := plE_le L e L.length
  obtain ⟨k, hk⟩ : ∃ k, k = plE L e L.length := ⟨_, rfl⟩
  have hR : ∀ y ∈ L.drop k, lessE e y = true := by
    intro y hy
    obtain ⟨p, hp, rfl⟩ := List.getElem_of_mem hy
    simp at hp
    refine plE_right L e L.length (k + p) _ (by omega) (by omega) ?_
    rw [List.getElem?_eq_getElem (by omega)]
    simp
  have hL : ∀ x ∈ L.take k, lessE e x = false := by
    intro x hx
    obtain ⟨p, hp, rfl⟩ := List.getElem_of_mem hx
    simp at hp
    have hk1 : 0 < k := by omega
    have hkl : k - 1 < L.length := by omega
    have h1 : lessE e (L[k - 1]'hkl) = false := plE_left L e L.length _ (by omega) (by rw [← hk]; exact List.getElem?_eq_getElem hkl) (Nat.le_refl _)
    simp only [List.getElem_take]
    by_cases hpk : p = k - 1
    · subst hpk; exact h1
    · have h2 := (List.pairwise_iff_getElem.1 h) p (k - 1) (by omega) hkl (by omega)
      exact lessE_ntrans h1 h2
  have hsp : Weak (L.take k ++ L.drop k) := by rw [List.take_append_drop]; exact h
  have hsp' := List.pairwise_append.1 hsp
  unfold putE
  rw [← hk]
  refine List.pairwise_append.2 ⟨hsp'.1, ?_, ?_⟩
  · refine List.pairwise_append.2 ⟨List.pairwise_singleton _ _, hsp'.2.1, ?_⟩
    intro a ha b hb
    simp only [List.mem_singleton] at ha
    subst ha
    exact lessB_asymm (hR b hb)
  · intro a ha b hb
    rcases List.mem_append.1 hb with hb | hb
    · simp only [List.mem_singleton] at hb
      subst hb
      exact hL a ha
    · exact hsp'.2.2 a ha b hb
theorem put_perm (L : List EntD) (e : EntD) : (putE L e).Perm (L ++ [e]) := by
  unfold putE
  generalize plE L e L.length = k
  have h1 : (L.take k ++ ([e] ++ L.drop k)).Perm (L.take k ++ (L.drop k ++ [e])) := List.Perm.append_left _ List.perm_append_comm
  have h2 : L.take k ++ (L.drop k ++ [e]) = L ++ [e] := by rw [← List.append_assoc, List.take_append_drop]
  rw [h2] at h1
  exact h1
theorem sort_both (L : List EntD) : Weak (sortE L) ∧ (sortE L).Perm L := by
  have : ∀ (L A : List EntD), Weak A → Weak (L.foldl putE A) ∧ (L.foldl putE A).Perm (A ++ L) := by
    intro L
    induction L with
    | nil => intro A h; exact ⟨h, by simp⟩
    | cons e r ih =>
      intro A h
      obtain ⟨h1, h2⟩ := ih (putE A e) (weak_put h)
      refine ⟨h1, ?_⟩
      rw [List.foldl_cons]
      refine h2.trans ?_
      have := (put_perm A e).append_right r
      simpa using this
  have h := this L [] List.Pairwise.nil
  simpa [sortE] using h
theorem strict_weak {A B : List EntD} (hA : Strict A) (hB : Weak B) (hP : A.Perm B) : A = B := by
  induction A generalizing B with
  | nil => exact (List.Perm.nil_eq hP)
  | cons a A ih =>
    cases B with
    | nil => exact absurd hP.length_eq (by simp)
    | cons b B =>
      have hab : a = b := by
        by_cases e : a = b
        · exact e
        · exfalso
          have hb : b ∈ a :: A := hP.mem_iff.2 (List.mem_cons_self ..)
          have ha : a ∈ b :: B := hP.mem_iff.1 (List.mem_cons_self ..)
          have hb' : b ∈ A := (List.mem_cons.1 hb).resolve_left (fun h => e h.symm)
          have ha' : a ∈ B := (List.mem_cons.1 ha).resolve_left e
          have h1 := (List.pairwise_cons.1 hA).1 b hb'
          have h2 := (List.pairwise_cons.1 hB).1 a ha'
          rw [h1] at h2
          cases h2
      subst hab
      rw [ih (List.pairwise_cons.1 hA).2 (List.pairwise_cons.1 hB).2 (List.Perm.cons_inv hP)]
theorem right_strict {L : List EntD} (h : rightB L = true) : Strict L := by
  refine List.pairwise_iff_getElem.2 ?_
  intro i j hi hj hij
  exact right_less h hij (List.getElem?_eq_getElem hi) (List.getElem?_eq_getElem hj)
/-- Sorted otherwise, entries are right just if they are so sorted one by one; and then they are the same. -/
theorem sorted_same {L D : List EntD} (hW : Weak D) (hP : D.Perm L) : rightB D = rightB (sortE L) ∧ (rightB D = true → D = sortE L) := by
  obtain ⟨sW, sP⟩ := sort_both L
  have hDS : D.Perm (sortE L) := hP.trans sP.symm
  cases h1 : rightB D with
  | true =>
    have e := strict_weak (right_strict h1) sW hDS
    exact ⟨by rw [← e]; exact h1.symm, fun _ => e⟩
  | false =>
    cases h2 : rightB (sortE L) with
    | false => exact ⟨rfl, fun h => by cases h⟩
    | true =>
      have e := strict_weak (right_strict h2) hW hDS.symm
      rw [← e, h2] at h1
      cases h1
theorem sortE_snoc {L : List EntD} {k : Nat} {e : EntD} (h : L[k]? = some e) : sortE (L.take (k + 1)) = putE (sortE (L.take k)) e := by
  unfold sortE
  rw [List.take_add_one, h]
  simp
theorem sortE_len (L : List EntD) : (sortE L).length = L.length := by
  have : ∀ (L A : List EntD), (L.foldl putE A).length = A.length + L.length := by
    intro L
    induction L with
    | nil => intro A; simp
    | cons e r ih => intro A; rw [List.foldl_cons, ih, putE_len, List.length_cons]; omega
  have h := this L []
  simpa [sortE] using h
end Go.Proofs.YthhiahjafhkbbaaGreat

namespace Go.Proofs.YthhiahjafhkbbaaGreat

theorem lessE_asym {x y : EntD} (h : lessE x y = true) : lessE y x = false := by
  cases h' : lessE y x with
  | false => rfl
  | true =>
    have h1 : lessE x x = true := lessB_trans h h'
    unfold lessE at h1
    rw [lessB_self] at h1
    cases h1
theorem less_wk : Mg.Wk lessE := ⟨fun _ => lessB_self _ _, fun _ _ h => lessE_asym h, fun _ _ _ h1 h2 => lessE_ntrans h1 h2⟩
theorem put_filter (A : List EntD) (x e : EntD) : (putE A x).filter (Mg.eqv lessE e) = A.filter (Mg.eqv lessE e) ++ [x].filter (Mg.eqv lessE e) := by
  unfold putE
  rw [List.filter_append, List.filter_append]
  have hA : A.filter (Mg.eqv lessE e) = (A.take (plE A x A.length)).filter (Mg.eqv lessE e) ++ (A.drop (plE A x A.length)).filter (Mg.eqv lessE e) := by
    rw [← List.filter_append, List.take_append_drop]
  rw [hA]
  by_cases he : Mg.eqv lessE e x = true
  · have h0 : (A.drop (plE A x A.length)).filter (Mg.eqv lessE e) = [] := List.filter_eq_nil_iff.2 (fun y hy => by
      obtain ⟨k, hk⟩ := List.getElem?_of_mem hy
      rw [List.getElem?_drop] at hk
      have hl := (List.getElem?_eq_some_iff.1 hk).1
      have := plE_right A x A.length _ y (Nat.le_add_right _ k) hl hk
      rw [Mg.eqv_lt less_wk he this]
      simp)
    rw [h0]
    simp
  · have h0 : [x].filter (Mg.eqv lessE e) = [] := by simp [he]
    rw [h0]
    simp
theorem sort_filter (L : List EntD) (e : EntD) : (sortE L).filter (Mg.eqv lessE e) = L.filter (Mg.eqv lessE e) := by
  have key : ∀ (L A : List EntD), (L.foldl putE A).filter (Mg.eqv lessE e) = A.filter (Mg.eqv lessE e) ++ L.filter (Mg.eqv lessE e) := by
    intro L
    induction L with
    | nil => intro A; simp
    | cons x R ih =>
      intro A
      rw [List.foldl_cons, ih, put_filter, List.append_assoc, ← List.filter_append]
      rfl
  have := key L []
  simpa [sortE] using this
theorem sort_asc (L : List EntD) : Mg.Asc lessE (sortE L) := (sort_both L).1
/-- All given out: the document's order. -/
theorem merge_done {flat out : List EntD} {Z : List (List EntD)} (h : Mg.MSt lessE flat out Z) (hH : Mg.HSt [] Z) : out = sortE flat := h.done less_wk hH.none (sort_asc flat) (sort_filter flat)
end Go.Proofs.YthhiahjafhkbbaaGreat

namespace Go.Proofs.YthhiahjafhkbbaaGreat

/-- A stretch of a row. -/
abbrev StrS (n : Nat) : Type := { p : Nat × Nat // p.1 < p.2 ∧ p.2 ≤ n }
def segS (L : List EntD) {n : Nat} (p : StrS n) : List EntD := (L.drop p.1.1).take (p.1.2 - p.1.1)
/-- These are all stretches of a list, each in order. -/
def AllS (L : List EntD) {n : Nat} (ys : List (StrS n)) : Prop := (ys.map (segS L)).flatten = L ∧ ∀ l ∈ ys.map (segS L), l ≠ [] ∧ Mg.Asc lessE l

theorem asc_one (L : List EntD) (f : Nat) : Mg.Asc lessE ((L.drop f).take (f + 1 - f)) := by
  rw [Nat.add_sub_cancel_left]
  unfold Mg.Asc
  rw [List.pairwise_iff_getElem]
  intro i j hi hj hij
  have h1 : j < 1 := Nat.lt_of_lt_of_le hj (List.length_take_le _ _)
  omega
theorem asc_more {L : List EntD} {f t : Nat} {x y : EntD} (hf : f < t) (hx : L[t - 1]? = some x) (hy : L[t]? = some y) (hA : Mg.Asc lessE ((L.drop f).take (t - f))) (h : lessE y x = false) : Mg.Asc lessE ((L.drop f).take (t + 1 - f)) := by
  obtain ⟨hxl, hxe⟩ := List.getElem?_eq_some_iff.1 hx
  obtain ⟨hyl, hye⟩ := List.getElem?_eq_some_iff.1 hy
  unfold Mg.Asc at hA ⊢
  rw [List.pairwise_iff_getElem] at hA ⊢
  intro i j hi hj hij
  have hj' := hj
  have hi' := hi
  rw [List.length_take, List.length_drop] at hj' hi'
  rw [List.getElem_take, List.getElem_drop, List.getElem_take, List.getElem_drop]
  by_cases h1 : j < t - f
  · have := hA i j (by rw [List.length_take, List.length_drop]; omega) (by rw [List.length_take, List.length_drop]; omega) hij
    rw [List.getElem_take, List.getElem_drop, List.getElem_take, List.getElem_drop] at this
    exact this
  · have e1 : f + j = t := by omega
    have e2 : L[f + j]'(by omega) = y := by
      have := List.getElem?_eq_getElem (l := L) (i := f + j) (by omega)
      exact Option.some.inj (this.symm.trans (by rw [e1]; exact hy))
    rw [e2]
    by_cases h2 : i = t - 1 - f
    · have e3 : f + i = t - 1 := by omega
      have e4 : L[f + i]'(by omega) = x := by
        have := List.getElem?_eq_getElem (l := L) (i := f + i) (by omega)
        exact Option.some.inj (this.symm.trans (by rw [e3]; exact hx))
      rw [e4]
      exact h
    · have := hA i (t - 1 - f) (by rw [List.length_take, List.length_drop]; omega) (by rw [List.length_take, List.length_drop]; omega) (by omega)
      rw [List.getElem_take, List.getElem_drop, List.getElem_take, List.getElem_drop] at this
      have e4 : L[f + (t - 1 - f)]'(by omega) = x := by
        have h5 := List.getElem?_eq_getElem (l := L) (i := f + (t - 1 - f)) (by omega)
        exact Option.some.inj (h5.symm.trans (by rw [show f + (t - 1 - f) = t - 1 by omega]; exact hx))
      rw [e4] at this
      exact lessE_ntrans h this
/-- How far the stretches are: all up to f. -/
def UpS (L : List EntD) {n : Nat} (f : Nat) (ys : List (StrS n)) : Prop := (ys.map (segS L)).flatten = L.take f ∧ ∀ l ∈ ys.map (segS L), l ≠ [] ∧ Mg.Asc lessE l
theorem UpS.zero (L : List EntD) {n : Nat} : UpS L 0 ([] : List (StrS n)) := ⟨rfl, fun l hl => by cases hl⟩
theorem UpS.step {L : List EntD} {n f t : Nat} {ys : List (StrS n)} (h : UpS L f ys) (hL : L.length = n) (hft : f < t) (htn : t ≤ n) (hA : Mg.Asc lessE ((L.drop f).take (t - f))) : UpS L t (ys ++ [⟨(f, t), hft, htn⟩]) := by
  refine ⟨?_, fun l hl => ?_⟩
  · rw [List.map_append, List.flatten_append, h.1]
    simp only [List.map_cons, List.map_nil, List.flatten_cons, List.flatten_nil, List.append_nil]
    show L.take f ++ (L.drop f).take (t - f) = _
    rw [show L.take t = L.take (f + (t - f)) by rw [show f + (t - f) = t by omega], List.take_add]
  · rw [List.map_append] at hl
    rcases List.mem_append.1 hl with h1 | h1
    · exact h.2 l h1
    · simp only [List.map_cons, List.map_nil, List.mem_singleton] at h1
      subst h1
      refine ⟨fun e => ?_, hA⟩
      have : ((L.drop f).take (t - f)).length = 0 := by
        have e' : (L.drop f).take (t - f) = [] := e
        rw [e']; rfl
      rw [List.length_take, List.length_drop] at this
      omega
theorem UpS.done {L : List EntD} {n : Nat} {ys : List (StrS n)} (h : UpS L n ys) (hL : L.length = n) : AllS L ys := ⟨by rw [h.1, List.take_of_length_le (by omega)], h.2⟩
end Go.Proofs.YthhiahjafhkbbaaGreat

namespace Go.Proofs.YthhiahjafhkbbaaGreat

theorem less_tot {x y : EntD} (h : lessE y x = false) (hne : x.2.1 ≠ y.2.1) : lessE x y = true := by
  have h1 := lessB_one x.1 y.1 x.2.1 y.2.1
  have h2 : decide (¬ x.2.1 = y.2.1) = true := decide_eq_true hne
  rw [h2, Bool.or_true] at h1
  unfold lessE at h ⊢
  rw [h, Bool.or_false] at h1
  exact h1
theorem weak_strict : ∀ {L : List EntD}, Weak L → UnT L → Strict L
  | [], _, _ => List.Pairwise.nil
  | x :: L, h, u => by
    obtain ⟨h1, h2⟩ := List.pairwise_cons.1 h
    obtain ⟨u1, u2⟩ := List.pairwise_cons.1 u
    exact List.pairwise_cons.2 ⟨fun y hy => less_tot (h1 y hy) (u1 y hy), weak_strict h2 u2⟩
theorem sort_strict {F : List EntD} (u : UnT F) : Strict (sortE F) := weak_strict (sort_both F).1 (u.perm (sort_both F).2.symm)
theorem sort_any {F G : List EntD} (u : UnT F) (p : F.Perm G) : sortE F = sortE G :=
  strict_weak (sort_strict u) (sort_both G).1 ((sort_both F).2.trans (p.trans (sort_both G).2.symm))
theorem sort_again {F : List EntD} (u : UnT F) : sortE (sortE F) = sortE F := (sort_any u (sort_both F).2.symm).symm
theorem strict_next {L : List EntD} (h : Strict L) {i : Nat} {x y : EntD} (hx : L[i]? = some x) (hy : L[i + 1]? = some y) : lessE x y = true := by
  obtain ⟨h1, rfl⟩ := List.getElem?_eq_some_iff.1 hx
  obtain ⟨h2, rfl⟩ := List.getElem?_eq_some_iff.1 hy
  exact (List.pairwise_iff_getElem.1 h) i (i + 1) h1 h2 (by omega)
instance mgEntDec : DecidableEq EntD := instDecidableEqProd
/-- An entry is among the first k. -/
def hasB (F : List EntD) (e : EntD) (k : Nat) : Bool := (F.take k).any (fun x => decide (x = e))
theorem hasB_zero (F : List EntD) (e : EntD) : hasB F e 0 = false := by simp [hasB]
theorem hasB_succ {F : List EntD} {e x : EntD} {k : Nat} (h : F[k]? = some x) : hasB F e (k + 1) = (hasB F e k || decide (x = e)) := by
  unfold hasB
  rw [List.take_add_one, h, List.any_append]
  simp
theorem hasB_all {F : List EntD} {e : EntD} {n : Nat} (h : e ∈ F) (hn : F.length = n) : hasB F e n = true := by
  unfold hasB
  rw [List.take_of_length_le (by omega), List.any_eq_true]
  exact ⟨e, h, decide_eq_true rfl⟩
theorem rev_flat (P : List (List EntD)) : P.reverse.flatten.Perm P.flatten := (List.reverse_perm P).flatten
theorem drop_len {P : List (List EntD)} {m : Nat} {L : List EntD} (h : P[m]? = some L) : (P.drop m).flatten.length = L.length + (P.drop (m + 1)).flatten.length := by
  obtain ⟨hl, rfl⟩ := List.getElem?_eq_some_iff.1 h
  rw [List.drop_eq_getElem_cons hl, List.flatten_cons, List.length_append]
theorem drop_rev {P : List (List EntD)} {m : Nat} {L : List EntD} (h : P[m]? = some L) : (P.drop m).reverse = (P.drop (m + 1)).reverse ++ [L] := by
  obtain ⟨hl, rfl⟩ := List.getElem?_eq_some_iff.1 h
  rw [List.drop_eq_getElem_cons hl, List.reverse_cons]
theorem drop_le (P : List (List EntD)) (m : Nat) : (P.drop m).flatten.length ≤ P.flatten.length := by
  have h : P.flatten = (P.take m).flatten ++ (P.drop m).flatten := by rw [← List.flatten_append, List.take_append_drop]
  rw [h, List.length_append]
  omega
end Go.Proofs.YthhiahjafhkbbaaGreat
