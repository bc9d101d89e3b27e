/-
  Plain: names in ascending order, each once: put in by halves or one by one it is the same; no statement of the program stands here.
-/
import Derived.Test.YtkeodfajgpbgaaaTallyP
import Derived.Test.YtkeodfajgpbgaaaLessQ
namespace Go.Proofs.Ytkeodfajgpbgaaa
open Go.RowKit

/-- One name ahead of another. -/
def ltS (a b : ByteArray) : Bool := Op.bytesLess a.data.toList b.data.toList
theorem ltS_self (a : ByteArray) : ltS a a = false := bless_self _
theorem ltS_trans {a b c : ByteArray} (h : ltS a b = true) (k : ltS b c = true) : ltS a c = true := bless_trans _ _ _ h k
theorem ltS_asymm {a b : ByteArray} (h : ltS a b = true) : ltS b a = false := bless_asymm _ _ h
theorem ltS_total {a b : ByteArray} (h : ¬ a = b) : ltS a b = true ∨ ltS b a = true := bless_total _ _ (fun e => h (ByteArray.ext (Array.toList_inj.1 e)))
/-- Ascending, each once. -/
def Asc (A : List ByteArray) : Prop := A.Pairwise (fun a b => ltS a b = true)
/-- As the document puts a name in. -/
def putL : List ByteArray → ByteArray → List ByteArray
  | [], s => [s]
  | x :: A, s => if ltS x s = true then x :: putL A s else if x = s then s :: A else s :: x :: A

theorem mem_putL {A : List ByteArray} {s y : ByteArray} : y ∈ putL A s → y = s ∨ y ∈ A := by
  induction A with
  | nil => intro h; simp [putL] at h; exact Or.inl h
  | cons x A ih =>
    intro h
    unfold putL at h
    split at h
    · rcases List.mem_cons.1 h with h | h
      · exact Or.inr (by rw [h]; exact List.mem_cons_self ..)
      · rcases ih h with h | h
        · exact Or.inl h
        · exact Or.inr (List.mem_cons_of_mem _ h)
    · split at h
      · rcases List.mem_cons.1 h with h | h
        · exact Or.inl h
        · exact Or.inr (List.mem_cons_of_mem _ h)
      · rcases List.mem_cons.1 h with h | h
        · exact Or.inl h
        · exact Or.inr h
theorem asc_putL {A : List ByteArray} (s : ByteArray) (h : Asc A) : Asc (putL A s) := by
  induction A with
  | nil => simp [putL, Asc]
  | cons x A ih =>
    obtain ⟨h1, h2⟩ := List.pairwise_cons.1 h
    unfold putL
    split
    · rename_i hx
      refine List.pairwise_cons.2 ⟨?_, ih h2⟩
      intro y hy
      rcases mem_putL hy with rfl | hy
      · exact hx
      · exact h1 y hy
    · rename_i hx
      split
      · rename_i he
        subst he
        exact h
      · rename_i he
        have hsx : ltS s x = true := by
          rcases ltS_total he with g | g
          · exact absurd g hx
          · exact g
        refine List.pairwise_cons.2 ⟨?_, h⟩
        intro y hy
        rcases List.mem_cons.1 hy with rfl | hy
        · exact hsx
        · exact ltS_trans hsx (h1 y hy)

/-- How many stand ahead. -/
def cntL (A : List ByteArray) (s : ByteArray) : Nat := (A.takeWhile (fun x => ltS x s)).length
theorem bsGo_at (less : Nat → Bool) (k hi0 : Nat) (h1 : ∀ t, t < k → less t = true) (h2 : ∀ t, k ≤ t → t < hi0 → less t = false) : ∀ (f lo hi : Nat), hi - lo ≤ f → lo ≤ k → k ≤ hi → hi ≤ hi0 → Lib.bsGo less f lo hi = k := by
  intro f
  induction f with
  | zero => intro lo hi hf hl hk _; unfold Lib.bsGo; omega
  | succ f ih =>
    intro lo hi hf hl hk hh
    unfold Lib.bsGo
    by_cases hlt : lo < hi
    · simp only [hlt, if_true]
      by_cases hm : (lo + hi) / 2 < k
      · rw [if_pos (h1 _ hm)]
        exact ih _ _ (by omega) (by omega) hk hh
      · rw [if_neg (by rw [h2 _ (by omega) (by omega)]; simp)]
        exact ih _ _ (by omega) hl (by omega) (by omega)
    · simp only [hlt, if_false]
      omega

end Go.Proofs.Ytkeodfajgpbgaaa
