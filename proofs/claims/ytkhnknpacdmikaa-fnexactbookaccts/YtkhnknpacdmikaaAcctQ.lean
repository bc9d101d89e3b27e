/-
  Plain: names in ascending order, each once: put in by halves or one by one it is the same; no statement of the program stands here.
  Plain: the program's list of names is the document's; no statement of the program stands here.
-/
import Derived.Test.YtkhnknpacdmikaaTallyP
import Derived.Test.YtkhnknpacdmikaaRunP
namespace Go.Proofs.Ytkhnknpacdmikaa
open Go.RowKit

/-- One name ahead of another. -/
def ltS (a b : ByteArray) : Bool := Op.bytesLess a.data.toList b.data.toList
theorem ltS_self (a : ByteArray) : ltS a a = false := bless_self _
theorem ltS_trans {a b c : ByteArray} (h : ltS a b = true) (k : ltS b c = true) : ltS a c = true := bless_trans _ _ _ h k
theorem ltS_asymm {a b : ByteArray} (h : ltS a b = true) : ltS b a = false := bless_asymm _ _ h
theorem ltS_total {a b : ByteArray} (h : ¬ a = b) : ltS a b = true ∨ ltS b a = true := bless_total _ _ (fun e => h (ByteArray.ext (Array.toList_inj.1 e)))
/-- Ascending, each once. -/
def Asc (A : List ByteArray) : Prop := A.Pairwise (fun a b => ltS a b = true)
/-- As the document puts a name in. -/
def putL : List ByteArray → ByteArray → List ByteArray
  | [], s => [s]
  | x :: A, s => if ltS x s = true then x :: putL A s else if x = s then s :: A else s :: x :: A

theorem mem_putL {A : List ByteArray} {s y : ByteArray} : y ∈ putL A s → y = s ∨ y ∈ A := by
  induction A with
  | nil => intro h; simp [putL] at h; exact Or.inl h
  | cons x A ih =>
    intro h
    unfold putL at h
    split at h
    · rcases List.mem_cons.1 h with h | h
      · exact Or.inr (by rw [h]; exact List.mem_cons_self ..)
      · rcases ih h with h | h
        · exact Or.inl h
        · exact Or.inr (List.mem_cons_of_mem _ h)
    · split at h
      · rcases List.mem_cons.1 h with h | h
        · exact Or.inl h
        · exact Or.inr (List.mem_cons_of_mem _ h)
      · rcases List.mem_cons.1 h with h | h
        · exact Or.inl h
        · exact Or.inr h
theorem asc_putL {A : List ByteArray} (s : ByteArray) (h : Asc A) : Asc (putL A s) := by
  induction A with
  | nil => simp [putL, Asc]
  | cons x A ih =>
    obtain ⟨h1, h2⟩ := List.pairwise_cons.1 h
    unfold putL
    split
    · rename_i hx
      refine List.pairwise_cons.2 ⟨?_, ih h2⟩
      intro y hy
      rcases mem_putL hy with rfl | hy
      · exact hx
      · exact h1 y hy
    · rename_i hx
      split
      · rename_i he
        subst he
        exact h
      · rename_i he
        have hsx : ltS s x = true := by
          rcases ltS_total he with g | g
          · exact absurd g hx
          · exact g
        refine List.pairwise_cons.2 ⟨?_, h⟩
        intro y hy
        rcases List.mem_cons.1 hy with rfl | hy
        · exact hsx
        · exact ltS_trans hsx (h1 y hy)

/-- How many stand ahead. -/
def cntL (A : List ByteArray) (s : ByteArray) : Nat := (A.takeWhile (fun x => ltS x s)).length
theorem bsGo_at (less : Nat → Bool) (k hi0 : Nat) (h1 : ∀ t, t < k → less t = true) (h2 : ∀ t, k ≤ t → t < hi0 → less t = false) : ∀ (f lo hi : Nat), hi - lo ≤ f → lo ≤ k → k ≤ hi → hi ≤ hi0 → Lib.bsGo less f lo hi = k := by
  intro f
  induction f with
  | zero => intro lo hi hf hl hk _; unfold Lib.bsGo; omega
  | succ f ih =>
    intro lo hi hf hl hk hh
    unfold Lib.bsGo
    by_cases hlt : lo < hi
    · simp only [hlt, if_true]
      by_cases hm : (lo + hi) / 2 < k
      · rw [if_pos (h1 _ hm)]
        exact ih _ _ (by omega) (by omega) hk hh
      · rw [if_neg (by rw [h2 _ (by omega) (by omega)]; simp)]
        exact ih _ _ (by omega) hl (by omega) (by omega)
    · simp only [hlt, if_false]
      omega

end Go.Proofs.Ytkhnknpacdmikaa

namespace Go.Proofs.Ytkhnknpacdmikaa
open Go.RowKit

theorem putL_cut : ∀ (A : List ByteArray) (s : ByteArray) (k : Nat), k ≤ A.length → (∀ t, t < k → ∀ x, A[t]? = some x → ltS x s = true) → (∀ x, A[k]? = some x → ltS x s = false) →
    putL A s = A.take k ++ s :: (if A[k]? = some s then A.drop (k + 1) else A.drop k)
  | [], s, k, hk, _, _ => by
    have : k = 0 := by simpa using hk
    subst this
    simp [putL]
  | x :: A, s, 0, _, _, h2 => by
    have hx := h2 x rfl
    unfold putL
    rw [hx]
    by_cases he : x = s
    · subst he; simp
    · simp [he]
  | x :: A, s, k + 1, hk, h1, h2 => by
    have hx := h1 0 (by omega) x rfl
    have ih := putL_cut A s k (by simpa using hk) (fun t ht y hy => h1 (t + 1) (by omega) y (by simpa using hy)) (fun y hy => h2 y (by simpa using hy))
    unfold putL
    rw [hx, ih]
    simp

theorem take_cnt (A : List ByteArray) (s : ByteArray) : cntL A s ≤ A.length ∧ (∀ t, t < cntL A s → ∀ x, A[t]? = some x → ltS x s = true) ∧ (∀ x, A[cntL A s]? = some x → ltS x s = false) := by
  induction A with
  | nil => exact ⟨by simp [cntL], fun t ht => by simp [cntL] at ht, fun x hx => by simp [cntL] at hx⟩
  | cons a A ih =>
    unfold cntL at ih ⊢
    by_cases ha : ltS a s = true
    · rw [List.takeWhile_cons_of_pos (p := fun x => ltS x s) ha]
      refine ⟨by simpa using ih.1, fun t ht x hx => ?_, fun x hx => ih.2.2 x (by simpa using hx)⟩
      cases t with
      | zero => simp at hx; rw [← hx]; exact ha
      | succ t => exact ih.2.1 t (by simpa using ht) x (by simpa using hx)
    · rw [List.takeWhile_cons_of_neg (p := fun x => ltS x s) (by simpa using ha)]
      refine ⟨by simp, fun t ht => by simp at ht, fun x hx => ?_⟩
      simp at hx
      rw [← hx]
      simpa using ha

theorem asc_get {A : List ByteArray} (h : Asc A) {i j : Nat} {x y : ByteArray} (hij : i < j) (hx : A[i]? = some x) (hy : A[j]? = some y) : ltS x y = true := by
  obtain ⟨h1, e1⟩ := List.getElem?_eq_some_iff.1 hx
  obtain ⟨h2, e2⟩ := List.getElem?_eq_some_iff.1 hy
  rw [← e1, ← e2]
  exact List.pairwise_iff_getElem.1 h i j h1 h2 hij

theorem nthS_get {A : List ByteArray} {t : Nat} {x : ByteArray} (h : A[t]? = some x) : nthS A t = x := by unfold nthS; rw [h]; rfl
theorem posI_cnt {A : List ByteArray} (h : Asc A) (s : ByteArray) : posI A s = cntL A s := by
  obtain ⟨h1, h2, h3⟩ := take_cnt A s
  unfold posI
  refine bsGo_at _ (cntL A s) A.length ?_ ?_ _ _ _ (by omega) (Nat.zero_le _) h1 (Nat.le_refl _)
  · intro t ht
    have hlt : t < A.length := by omega
    have hx := List.getElem?_eq_getElem hlt
    rw [nthS_get hx, ByteArray.toList_eq, ByteArray.toList_eq]
    exact h2 t ht _ hx
  · intro t ht hlt
    have hx := List.getElem?_eq_getElem hlt
    rw [nthS_get hx, ByteArray.toList_eq, ByteArray.toList_eq]
    have hk : cntL A s < A.length := by omega
    have hy := List.getElem?_eq_getElem hk
    have hf := h3 _ hy
    by_cases he : cntL A s = t
    · subst he; exact hf
    · have hlt2 := asc_get h (show cntL A s < t by omega) hy hx
      cases hc : Op.bytesLess A[t].data.toList s.data.toList with
      | false => rfl
      | true =>
        have : ltS A[cntL A s] s = true := ltS_trans hlt2 hc
        rw [this] at hf
        cases hf

theorem insI_putL {A : List ByteArray} (h : Asc A) (s : ByteArray) : insI A s = putL A s := by
  obtain ⟨h1, h2, h3⟩ := take_cnt A s
  rw [putL_cut A s (cntL A s) h1 h2 h3]
  unfold insI hitI
  rw [posI_cnt h s]
  by_cases he : A[cntL A s]? = some s
  · obtain ⟨hlt, hg⟩ := List.getElem?_eq_some_iff.1 he
    rw [if_pos he, if_pos (decide_eq_true ⟨hlt, nthS_get he⟩)]
    conv => lhs; rw [← List.take_append_drop (cntL A s) A]
    congr 1
    rw [List.drop_eq_getElem_cons hlt, hg]
  · have hd : decide (cntL A s < A.length ∧ nthS A (cntL A s) = s) = false := by
      apply decide_eq_false
      rintro ⟨hlt, hn⟩
      apply he
      have hx := List.getElem?_eq_getElem hlt
      rw [nthS_get hx] at hn
      rw [hx, hn]
    rw [if_neg he, hd]
    rfl

/-- The document's list. -/
def putLs (A : List ByteArray) (L : List LegD) : List ByteArray := L.foldl (fun A l => putL A l.1) A
def accS (B : List PostD) : List ByteArray := B.foldl (fun A p => putLs A p.2) []
theorem putLs_asc (L : List LegD) : ∀ A, Asc A → Asc (putLs A L) ∧ accL A L = putLs A L := by
  induction L with
  | nil => intro A h; exact ⟨h, rfl⟩
  | cons l L ih =>
    intro A h
    have := ih (putL A l.1) (asc_putL _ h)
    refine ⟨this.1, ?_⟩
    unfold accL putLs at *
    simp only [List.foldl_cons]
    rw [insI_putL h]
    exact this.2
theorem accS_asc (B : List PostD) : Asc (accS B) ∧ accB B = accS B := by
  have key : ∀ (B : List PostD) (A : List ByteArray), Asc A → Asc (B.foldl (fun A p => putLs A p.2) A) ∧ B.foldl (fun A p => accL A p.2) A = B.foldl (fun A p => putLs A p.2) A := by
    intro B
    induction B with
    | nil => intro A h; exact ⟨h, rfl⟩
    | cons p B ih =>
      intro A h
      obtain ⟨h1, h2⟩ := putLs_asc p.2 A h
      obtain ⟨h3, h4⟩ := ih (putLs A p.2) h1
      refine ⟨h3, ?_⟩
      simp only [List.foldl_cons]
      rw [h2]
      exact h4
  exact key B [] List.Pairwise.nil
theorem putL_len (A : List ByteArray) (s : ByteArray) : (putL A s).length ≤ A.length + 1 := by
  induction A with
  | nil => simp [putL]
  | cons x A ih =>
    unfold putL
    split
    · simp; omega
    · split <;> simp

end Go.Proofs.Ytkhnknpacdmikaa
