/-
  Plain: entries in order, what a run may have and what is found in it; no statement of the program stands here.
-/
import Derived.Test.YtkeodfajgpbgaaaMaskP
namespace Go.Proofs.Ytkeodfajgpbgaaa
open Go.RowKit

theorem right_at {L : List EntD} (h : rightB L = true) (j : Nat) (hj : j < L.length) : okAt L j = true := by
  unfold rightB at h
  rw [List.all_eq_true] at h
  exact h j (List.mem_range.2 hj)
theorem right_ent {L : List EntD} (h : rightB L = true) {j : Nat} {e : EntD} (hj : L[j]? = some e) : entB e.1 e.2.1 e.2.2.1 e.2.2.2.1 e.2.2.2.2 = true := by
  have h1 := right_at h j (List.getElem?_eq_some_iff.1 hj).1
  cases g : entB e.1 e.2.1 e.2.2.1 e.2.2.2.1 e.2.2.2.2 with
  | true => rfl
  | false => rw [okAt_ent hj g] at h1; cases h1
theorem right_next {L : List EntD} (h : rightB L = true) {j : Nat} {d e : EntD} (hd : L[j]? = some d) (he : L[j + 1]? = some e) : lessB d.1 d.2.1 e.1 e.2.1 = true := by
  have h1 := right_at h (j + 1) (List.getElem?_eq_some_iff.1 he).1
  rw [okAt_succ he hd] at h1
  simp at h1
  exact h1.2
theorem right_less {L : List EntD} (h : rightB L = true) {i j : Nat} (hij : i < j) {d e : EntD} (hd : L[i]? = some d) (he : L[j]? = some e) : lessB d.1 d.2.1 e.1 e.2.1 = true := by
  induction j generalizing e with
  | zero => omega
  | succ j ih =>
    have hj : j < L.length := by have := (List.getElem?_eq_some_iff.1 he).1; omega
    have hg : L[j]? = some L[j] := List.getElem?_eq_getElem hj
    have hn := right_next h hg he
    by_cases e1 : i = j
    · subst e1
      rw [hg] at hd
      cases hd
      exact hn
    · exact lessB_trans (ih (by omega) hg) hn
theorem entB_seq {k t : ByteArray} {q d n : Int} (h : entB k q d t n = true) : 1 ≤ q ∧ q ≤ 100000 := by
  simp [entB] at h
  exact ⟨h.2.1, h.2.2.1⟩
theorem less_keys {ka kb : ByteArray} {qa qb : Int} (h : lessB ka qa kb qb = true) : Op.bytesLess kb.data.toList ka.data.toList = false := by
  rcases lessB_true h with h | ⟨rfl, _⟩
  · exact bless_asymm _ _ h
  · exact bless_self _

theorem or_and (a b : Nat) : decide (a ||| b = a) = decide (a &&& b = b) := by
  have : (a ||| b = a) ↔ (a &&& b = b) := by
    constructor
    · intro h
      apply Nat.eq_of_testBit_eq
      intro i
      have := congrArg (fun x => Nat.testBit x i) h
      simp only [Nat.testBit_or, Nat.testBit_and] at this ⊢
      cases h1 : a.testBit i <;> cases h2 : b.testBit i <;> simp_all
    · intro h
      apply Nat.eq_of_testBit_eq
      intro i
      have := congrArg (fun x => Nat.testBit x i) h
      simp only [Nat.testBit_or, Nat.testBit_and] at this ⊢
      cases h1 : a.testBit i <;> cases h2 : b.testBit i <;> simp_all
  simp [this]
theorem mask_has (L : List EntD) (e : EntD) (h : e ∈ L) : maskL L ||| maskK e.1 = maskL L := by
  have key : ∀ (L : List EntD) (m : Nat), (e ∈ L ∨ m ||| maskK e.1 = m) → (L.foldl (fun m e => m ||| maskK e.1) m) ||| maskK e.1 = L.foldl (fun m e => m ||| maskK e.1) m := by
    intro L
    induction L with
    | nil => intro m h; rcases h with h | h; · cases h
             exact h
    | cons a r ih =>
      intro m h
      refine ih _ ?_
      rcases h with h | h
      · rcases List.mem_cons.1 h with h | h
        · subst h
          right
          show m ||| maskK e.1 ||| maskK e.1 = m ||| maskK e.1
          rw [Nat.or_assoc, Nat.or_self]
        · exact Or.inl h
      · right
        show m ||| maskK a.1 ||| maskK e.1 = m ||| maskK a.1
        rw [Nat.or_assoc, Nat.or_comm (maskK a.1), ← Nat.or_assoc, h]
  exact key L 0 (Or.inl h)

/-- A key is in the range and all its marks are there. -/
def inB (L : List EntD) (key : ByteArray) : Bool :=
  match L[0]?, L[L.length - 1]? with
  | some f, some l => !Op.bytesLess key.data.toList f.1.data.toList && (!Op.bytesLess l.1.data.toList key.data.toList && decide (maskL L ||| maskK key = maskL L))
  | _, _ => false
/-- What a run may have. -/
def mayB (L : List EntD) (m : Int) (key : ByteArray) : Bool := runB L m && inB L key
theorem runB_parts {L : List EntD} {m : Int} (h : runB L m = true) : 1 ≤ L.length ∧ L.length ≤ 150 ∧ rightB L = true ∧ m = maskL L := by
  simpa [runB] using h
theorem may_mem {L : List EntD} {m : Int} (h : runB L m = true) {e : EntD} (he : e ∈ L) : mayB L m e.1 = true := by
  obtain ⟨h1, _, h3, _⟩ := runB_parts h
  obtain ⟨j, hj, rfl⟩ := List.getElem_of_mem he
  have hg : L[j]? = some L[j] := List.getElem?_eq_getElem hj
  have g0 : L[0]? = some L[0] := List.getElem?_eq_getElem (by omega)
  have gl : L[L.length - 1]? = some (L[L.length - 1]'(by omega)) := List.getElem?_eq_getElem (by omega)
  unfold mayB inB
  rw [h, g0, gl]
  have a1 : Op.bytesLess (L[j]).1.data.toList (L[0]).1.data.toList = false := by
    by_cases e0 : j = 0
    · subst e0; exact bless_self _
    · exact less_keys (right_less h3 (by omega : 0 < j) g0 hg)
  have a2 : Op.bytesLess (L[L.length - 1]'(by omega)).1.data.toList (L[j]).1.data.toList = false := by
    by_cases e0 : j = L.length - 1
    · subst e0; exact bless_self _
    · exact less_keys (right_less h3 (by omega : j < L.length - 1) hg gl)
  simp [a1, a2, mask_has L _ he]
/-- What is found of a key up to a time. -/
def findL (L : List EntD) (key : ByteArray) (seq : Int) : List EntD := L.filter (fun e => decide (e.1 = key) && decide (e.2.1 ≤ seq))
theorem find_none {L : List EntD} {m : Int} {key : ByteArray} (h : runB L m = true) (h1 : mayB L m key = false) (seq : Int) : findL L key seq = [] := by
  unfold findL
  rw [List.filter_eq_nil_iff]
  intro e he
  have := may_mem h he
  simp
  intro e1
  rw [e1, h1] at this
  cases this

/-- In entries in order, what is found of a key is the stretch from the first that is not ahead of it and that time to the first that is not ahead of it and the time 0. -/
theorem find_stretch {L : List EntD} (h : rightB L = true) {key : ByteArray} {seq : Int} {i j : Nat} (hi : i ≤ L.length) (hj : j ≤ L.length)
    (i1 : ∀ p e, L[p]? = some e → p < i → lessB e.1 e.2.1 key seq = true) (i2 : ∀ p e, L[p]? = some e → i ≤ p → lessB e.1 e.2.1 key seq = false)
    (j1 : ∀ p e, L[p]? = some e → p < j → lessB e.1 e.2.1 key 0 = true) (j2 : ∀ p e, L[p]? = some e → j ≤ p → lessB e.1 e.2.1 key 0 = false) :
    i ≤ j ∧ findL L key seq = (L.drop i).take (j - i) := by
  have hij : i ≤ j := by
    by_cases h1 : i ≤ j
    · exact h1
    · exfalso
      have hjl : j < L.length := by omega
      have g := List.getElem?_eq_getElem hjl
      have a := i1 j _ g (by omega)
      have b := j2 j _ g (Nat.le_refl _)
      have c := entB_seq (right_ent h g)
      rcases lessB_true a with a | ⟨a, a'⟩
      · unfold lessB at b; rw [a] at b; simp at b
      · unfold lessB at b
        have : decide ((0 : Int) < L[j].2.1) = true := decide_eq_true (by omega)
        rw [this] at b
        simp [a] at b
  refine ⟨hij, ?_⟩
  have split : L = L.take i ++ ((L.drop i).take (j - i) ++ L.drop j) := by
    have : (L.drop i).drop (j - i) = L.drop j := by rw [List.drop_drop]; congr 1; omega
    rw [← this, List.take_append_drop, List.take_append_drop]
  unfold findL
  have f1 : (L.take i).filter (fun e => decide (e.1 = key) && decide (e.2.1 ≤ seq)) = [] := by
    rw [List.filter_eq_nil_iff]
    intro e he
    obtain ⟨p, hp, rfl⟩ := List.getElem_of_mem he
    simp at hp
    have g : L[p]? = some L[p] := List.getElem?_eq_getElem (by omega)
    have a := i1 p _ g (by omega)
    simp only [List.getElem_take]
    rcases lessB_true a with a | ⟨a, a'⟩
    · have : ¬ L[p].1 = key := fun e => by rw [e, bless_self] at a; cases a
      simp [this]
    · have : ¬ L[p].2.1 ≤ seq := by omega
      simp [this]
  have f3 : (L.drop j).filter (fun e => decide (e.1 = key) && decide (e.2.1 ≤ seq)) = [] := by
    rw [List.filter_eq_nil_iff]
    intro e he
    obtain ⟨p, hp, rfl⟩ := List.getElem_of_mem he
    simp at hp
    have g : L[j + p]? = some (L[j + p]'(by omega)) := List.getElem?_eq_getElem (by omega)
    have b := j2 (j + p) _ g (by omega)
    have c := entB_seq (right_ent h g)
    simp only [List.getElem_drop]
    have : ¬ (L[j + p]'(by omega)).1 = key := fun e => by
      unfold lessB at b
      have : decide ((0 : Int) < (L[j + p]'(by omega)).2.1) = true := decide_eq_true (by omega)
      rw [this, e, bless_self] at b
      simp at b
    simp [this]
  have f2 : ((L.drop i).take (j - i)).filter (fun e => decide (e.1 = key) && decide (e.2.1 ≤ seq)) = (L.drop i).take (j - i) := by
    rw [List.filter_eq_self]
    intro e he
    obtain ⟨p, hp, rfl⟩ := List.getElem_of_mem he
    simp at hp
    have hq : i + p < L.length := by omega
    have g : L[i + p]? = some (L[i + p]'hq) := List.getElem?_eq_getElem hq
    have a := i2 (i + p) _ g (by omega)
    have b := j1 (i + p) _ g (by omega)
    simp only [List.getElem_take, List.getElem_drop]
    have hk : (L[i + p]'hq).1 = key := by
      rcases lessB_true b with b | ⟨b, _⟩
      · exfalso
        unfold lessB at a
        rw [b] at a
        simp at a
      · exact b
    have hs : (L[i + p]'hq).2.1 ≤ seq := by
      unfold lessB at a
      rw [hk, bless_self] at a
      simp at a
      exact a
    simp [hk, hs]
  rw [split, List.filter_append, List.filter_append, f1, f2, f3]
  rw [← split]
  simp
end Go.Proofs.Ytkeodfajgpbgaaa
