/-
  Plain: a right run with one entry more of a key that it has not; no statement of the program stands here.
-/
import Derived.Test.YtkhnknpacdmikaaRunOfS
import Derived.Test.YtkhnknpacdmikaaFindS
import Derived.Test.YtkhnknpacdmikaaSortP
namespace Go.Proofs.Ytkhnknpacdmikaa
open Go.RowKit

theorem right_of_strict {M : List EntD} (hs : Strict M) (he : ∀ e ∈ M, entB e.1 e.2.1 e.2.2.1 e.2.2.2.1 e.2.2.2.2 = true) : rightB M = true := by
  refine right_of (k := M.length) ?_ (Nat.le_refl _)
  intro j hj
  have hg : M[j]? = some M[j] := List.getElem?_eq_getElem hj
  match j, hj, hg with
  | 0, hj, hg => rw [okAt_zero hg]; exact he _ (List.getElem_mem hj)
  | i + 1, hj, hg =>
    have hi : M[i]? = some (M[i]'(by omega)) := List.getElem?_eq_getElem (by omega)
    rw [okAt_succ hg hi, he _ (List.getElem_mem hj)]
    exact (List.pairwise_iff_getElem.1 hs) i (i + 1) (by omega) hj (by omega)
theorem less_of_weak {a b : EntD} (h : lessE b a = false) (hd : ¬ (a.1 = b.1 ∧ a.2.1 = b.2.1)) : lessE a b = true := by
  have h1 := lessB_one a.1 b.1 a.2.1 b.2.1
  unfold lessE at h ⊢
  rw [h, Bool.or_false] at h1
  rw [h1]
  by_cases e : a.1 = b.1
  · have : ¬ a.2.1 = b.2.1 := fun e2 => hd ⟨e, e2⟩
    simp [this]
  · simp [e]
/-- The entries are of unlike keys or times. -/
def Unlike (L : List EntD) : Prop := L.Pairwise (fun a b => ¬ (a.1 = b.1 ∧ a.2.1 = b.2.1))
theorem unlike_perm {A B : List EntD} (h : Unlike A) (p : A.Perm B) : Unlike B :=
  (List.Perm.pairwise_iff (fun {_ _} h e => h ⟨e.1.symm, e.2.symm⟩) p).1 h
theorem unlike_right {L : List EntD} (h : rightB L = true) : Unlike L := by
  refine (right_strict h).imp ?_
  rintro a b hab ⟨e1, e2⟩
  unfold lessE at hab
  rw [e1, e2, lessB_self] at hab
  cases hab
theorem strict_of {M : List EntD} (hw : Weak M) (hu : Unlike M) : Strict M := by
  refine (List.Pairwise.and hw hu).imp ?_
  rintro a b ⟨h1, h2⟩
  exact less_of_weak h1 h2
/-- Entries of a right list, and more that are right and unlike, make a run when sorted. -/
theorem right_sort {L : List EntD} (hu : Unlike L) (he : ∀ e ∈ L, entB e.1 e.2.1 e.2.2.1 e.2.2.2.1 e.2.2.2.2 = true) : rightB (sortE L) = true := by
  obtain ⟨sW, sP⟩ := sort_both L
  exact right_of_strict (strict_of sW (unlike_perm hu sP.symm)) (fun e h => he e (sP.mem_iff.1 h))
theorem right_all {L : List EntD} (h : rightB L = true) : ∀ e ∈ L, entB e.1 e.2.1 e.2.2.1 e.2.2.2.1 e.2.2.2.2 = true := by
  intro e he
  obtain ⟨j, hj, rfl⟩ := List.getElem_of_mem he
  exact right_ent h (List.getElem?_eq_getElem hj)

theorem bless_le {a b c : List UInt8} (h1 : Op.bytesLess a b = false) (h2 : Op.bytesLess b c = false) : Op.bytesLess a c = false := by
  cases h : Op.bytesLess a c with
  | false => rfl
  | true =>
    exfalso
    by_cases e : a = b
    · subst e
      rw [h] at h2
      cases h2
    · rcases bless_total a b e with k | k
      · rw [k] at h1; cases h1
      · have := bless_trans _ _ _ k h
        rw [this] at h2
        cases h2
theorem mask_all {D : List EntD} : ∀ (L : List EntD) (m : Nat), (∀ e ∈ L, e ∈ D) → maskL D ||| m = maskL D → maskL D ||| L.foldl (fun m e => m ||| maskK e.1) m = maskL D
  | [], m, _, h => h
  | e :: r, m, hs, h => by
    rw [List.foldl_cons]
    refine mask_all r _ (fun x hx => hs x (List.mem_cons_of_mem _ hx)) ?_
    rw [← Nat.or_assoc, h]
    exact mask_has D e (hs e (List.mem_cons_self ..))
theorem mask_sub {L D : List EntD} (hs : ∀ e ∈ L, e ∈ D) : maskL D ||| maskL L = maskL D := mask_all L 0 hs (Nat.or_zero _)
/-- What a run may have, a right run with its entries may have. -/
theorem may_sub {L D : List EntD} {m : Int} {key : ByteArray} (h : mayB L m key = true) (hD : runB D (maskL D : Nat) = true) (hs : ∀ e ∈ L, e ∈ D) : mayB D (maskL D : Nat) key = true := by
  unfold mayB at h
  rw [Bool.and_eq_true] at h
  obtain ⟨hr, hi⟩ := h
  obtain ⟨h1, _, h3, _⟩ := runB_parts hr
  obtain ⟨d1, _, d3, _⟩ := runB_parts hD
  have g0 : L[0]? = some L[0] := List.getElem?_eq_getElem (by omega)
  have gl : L[L.length - 1]? = some (L[L.length - 1]'(by omega)) := List.getElem?_eq_getElem (by omega)
  have q0 : D[0]? = some D[0] := List.getElem?_eq_getElem (by omega)
  have ql : D[D.length - 1]? = some (D[D.length - 1]'(by omega)) := List.getElem?_eq_getElem (by omega)
  unfold inB at hi
  rw [g0, gl] at hi
  simp only [Bool.and_eq_true, Bool.not_eq_true', decide_eq_true_eq] at hi
  obtain ⟨i1, i2, i3⟩ := hi
  have m0 := may_mem hD (hs _ (List.getElem_mem (by omega : 0 < L.length)))
  have ml := may_mem hD (hs _ (List.getElem_mem (by omega : L.length - 1 < L.length)))
  unfold mayB inB at m0 ml ⊢
  rw [hD, q0, ql] at m0 ml ⊢
  simp only [Bool.true_and, Bool.and_eq_true, Bool.not_eq_true', decide_eq_true_eq] at m0 ml ⊢
  refine ⟨bless_le i1 m0.1, bless_le ml.2.1 i2, ?_⟩
  have hsub := mask_sub hs
  calc maskL D ||| maskK key = (maskL D ||| maskL L) ||| maskK key := by rw [hsub]
    _ = maskL D ||| (maskL L ||| maskK key) := by rw [Nat.or_assoc]
    _ = maskL D := by rw [i3, hsub]

/-- The entry that the law puts in. -/
def moreE : EntD := (⟨#[109, 47, 109]⟩, 900, 3, ⟨#[]⟩, 1)
theorem moreE_ok : entB moreE.1 moreE.2.1 moreE.2.2.1 moreE.2.2.2.1 moreE.2.2.2.2 = true := by decide
theorem more_unlike {L : List EntD} (h : rightB L = true) (hk : ∀ e ∈ L, ¬ e.1.data.toList = [109, 47, 109]) : Unlike (L ++ [moreE]) := by
  refine List.pairwise_append.2 ⟨unlike_right h, List.pairwise_singleton _ _, ?_⟩
  intro a ha b hb e
  rw [List.mem_singleton] at hb
  subst hb
  exact hk a ha (by rw [e.1]; rfl)
theorem more_all {L : List EntD} (h : rightB L = true) : ∀ e ∈ L ++ [moreE], entB e.1 e.2.1 e.2.2.1 e.2.2.2.1 e.2.2.2.2 = true := by
  intro e he
  rcases List.mem_append.1 he with h1 | h1
  · exact right_all h e h1
  · rw [List.mem_singleton] at h1
    subst h1
    exact moreE_ok
theorem more_of {L : List EntD} {m : Int} (h : runB L m = true) (hl : L.length < 150) (hk : ∀ e ∈ L, ¬ e.1.data.toList = [109, 47, 109]) : ofB (L ++ [moreE]) = true := by
  obtain ⟨h1, h2, h3, h4⟩ := runB_parts h
  unfold ofB
  rw [right_sort (more_unlike h3 hk) (more_all h3)]
  simp
  omega
theorem of_run {L : List EntD} (h : ofB L = true) : runB (ofL L) (ofM L) = true ∧ ofL L = sortE L ∧ ofM L = ((maskL (sortE L) : Nat) : Int) := by
  have e1 : ofL L = sortE L := by unfold ofL; rw [if_pos h]
  have e2 : ofM L = ((maskL (sortE L) : Nat) : Int) := by unfold ofM; rw [if_pos h]
  refine ⟨?_, e1, e2⟩
  rw [e1, e2]
  unfold ofB at h
  simp only [Bool.and_eq_true, decide_eq_true_eq] at h
  unfold runB
  rw [sortE_len, h.2.2]
  simp [h.1, h.2.1]
theorem more_may {L : List EntD} {m : Int} {key : ByteArray} (h : mayB L m key = true) (hl : L.length < 150) (hk : ∀ e ∈ L, ¬ e.1.data.toList = [109, 47, 109]) : mayB (ofL (L ++ [moreE])) (ofM (L ++ [moreE])) key = true := by
  have hr : runB L m = true := by unfold mayB at h; rw [Bool.and_eq_true] at h; exact h.1
  obtain ⟨k1, k2, k3⟩ := of_run (more_of hr hl hk)
  rw [k2, k3] at k1 ⊢
  exact may_sub h k1 (fun e he => (sort_both _).2.mem_iff.2 (List.mem_append_left _ he))
theorem more_has {L : List EntD} {m : Int} (hr : runB L m = true) (hl : L.length < 150) (hk : ∀ e ∈ L, ¬ e.1.data.toList = [109, 47, 109]) : mayB (ofL (L ++ [moreE])) (ofM (L ++ [moreE])) ⟨#[109, 47, 109]⟩ = true := by
  obtain ⟨k1, k2, k3⟩ := of_run (more_of hr hl hk)
  refine may_mem (e := moreE) k1 ?_
  rw [k2]
  exact (sort_both _).2.mem_iff.2 (List.mem_append_right _ (List.mem_singleton.2 rfl))
theorem more_find {L : List EntD} {m : Int} (hr : runB L m = true) (hl : L.length < 150) (hk : ∀ e ∈ L, ¬ e.1.data.toList = [109, 47, 109]) : foundL (ofL (L ++ [moreE])) (ofM (L ++ [moreE])) ⟨#[109, 47, 109]⟩ 899 = [] := by
  obtain ⟨k1, k2, k3⟩ := of_run (more_of hr hl hk)
  unfold foundL
  rw [if_pos k1, k2]
  unfold findL
  rw [List.filter_eq_nil_iff]
  intro e he
  have he' := (sort_both _).2.mem_iff.1 he
  rcases List.mem_append.1 he' with h1 | h1
  · have := hk e h1
    have hne : ¬ e.1 = ⟨#[109, 47, 109]⟩ := fun e1 => this (by rw [e1])
    simp [hne]
  · rw [List.mem_singleton] at h1
    subst h1
    decide
end Go.Proofs.Ytkhnknpacdmikaa
