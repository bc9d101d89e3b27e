/-
  Rows of stretches in own memory: two cells each. No function of the program is walked here.
-/
import Derived.Test.YtlmgojlffgkciaaGreatGa13
import Derived.Test.YtlmgojlffgkciaaGreatGa18
namespace Go.Proofs.YtlmgojlffgkciaaGreat
open Go.RowKit
abbrev StrD := Nat × Nat × Nat × Nat × Nat
def strCells (x : StrD) : List Value := [.slice (some ⟨x.1, x.2.1, none⟩) x.2.2.1 x.2.2.2.1, .int .i64 x.2.2.2.2]
def flatH (X : List StrD) : List Value := X.flatMap strCells
theorem flatH_cons (x : StrD) (X : List StrD) : flatH (x :: X) = .slice (some ⟨x.1, x.2.1, none⟩) x.2.2.1 x.2.2.2.1 :: .int .i64 x.2.2.2.2 :: flatH X := rfl
theorem flatH_append (A B : List StrD) : flatH (A ++ B) = flatH A ++ flatH B := by simp [flatH]
theorem flatH_len (X : List StrD) : (flatH X).length = X.length * 2 := by
  induction X with
  | nil => rfl
  | cons x r ih => rw [flatH_cons, List.length_cons, List.length_cons, ih, List.length_cons]; omega
theorem flatH_has : ∀ (X : List StrD) (j : Nat) (x : StrD), X[j]? = some x → (flatH X)[j * 2]? = some (.slice (some ⟨x.1, x.2.1, none⟩) x.2.2.1 x.2.2.2.1) ∧ (flatH X)[j * 2 + 1]? = some (.int .i64 x.2.2.2.2)
  | [], j, x, h => by simp at h
  | y :: X, 0, x, h => by simp at h; subst h; exact ⟨rfl, rfl⟩
  | y :: X, j + 1, x, h => by
    have := flatH_has X j x (by simpa using h)
    rw [flatH_cons, show (j + 1) * 2 = j * 2 + 1 + 1 by omega]
    exact ⟨by rw [List.getElem?_cons_succ, List.getElem?_cons_succ]; exact this.1, by rw [List.getElem?_cons_succ, List.getElem?_cons_succ]; exact this.2⟩
theorem flatH_set : ∀ (X : List StrD) (j : Nat) (x : StrD), ((flatH X).set (j * 2) (.slice (some ⟨x.1, x.2.1, none⟩) x.2.2.1 x.2.2.2.1)).set (j * 2 + 1) (.int .i64 x.2.2.2.2) = flatH (X.set j x)
  | [], j, x => rfl
  | y :: X, 0, x => rfl
  | y :: X, j + 1, x => by
    have := flatH_set X j x
    rw [flatH_cons, show (j + 1) * 2 = j * 2 + 1 + 1 by omega, List.set_cons_succ, List.set_cons_succ, List.set_cons_succ, List.set_cons_succ, this]
    rfl
structure OwnH (w : World) (base g n c : Nat) (X : List StrD) : Prop where
  owns : w.ownsRow base 136 2 (.slice (some ⟨g, 0, none⟩) n c) n (flatH X)
  len : X.length = n
theorem OwnH.lt {w : World} {base g n c : Nat} {X : List StrD} (h : OwnH w base g n c X) : base ≤ g ∧ g < w.heap.size := h.owns.lt g rfl
theorem OwnH.grown {w w' : World} {base g n c : Nat} {X : List StrD} {row : Option Nat} (h : OwnH w base g n c X) (hg : w.grownBy w' row) (hne : some g ≠ row) : OwnH w' base g n c X := ⟨h.owns.kept hg (.inr hne), h.len⟩
theorem OwnH.below {w w' : World} {base g n c : Nat} {X : List StrD} (h : OwnH w base g n c X) (hb : Below w.heap.size w w') : OwnH w' base g n c X :=
  h.grown (row := none) ⟨hb.os, hb.tape, hb.output, hb.size, fun k hk _ => hb.block k hk⟩ (by simp)
theorem OwnH.at2 {w : World} {base g n c i : Nat} {X : List StrD} {x : StrD} (h : OwnH w base g n c X) (hx : X[i]? = some x) : w.cell? ⟨g, i * 2, none⟩ = some (.slice (some ⟨x.1, x.2.1, none⟩) x.2.2.1 x.2.2.2.1) ∧ w.cell? ⟨g, i * 2 + 1, none⟩ = some (.int .i64 x.2.2.2.2) := by
  have hc := h.owns.cells (g := g) rfl
  obtain ⟨h0, h1⟩ := flatH_has X i x hx
  have a0 := hc _ _ h0
  have a1 := hc _ _ h1
  rw [Go.WideShapes.add_plain] at a0 a1
  simp only [Nat.zero_add] at a0 a1
  exact ⟨a0, a1⟩
theorem OwnH.cells {w : World} {base g n c : Nat} {X : List StrD} (h : OwnH w base g n c X) : ∃ cc, w.heap[g]? = some (.cells cc 136 (0, 0)) := by
  rcases h.owns.2 with ⟨hv, _⟩ | ⟨g', cap, cur, hv, _, hg, _⟩
  · cases hv
  · cases hv
    exact ⟨_, hg⟩
def setH (w : World) (g i : Nat) (x : StrD) : World := (w.setCell ⟨g, i * 2, none⟩ (.slice (some ⟨x.1, x.2.1, none⟩) x.2.2.1 x.2.2.2.1)).setCell ⟨g, i * 2 + 1, none⟩ (.int .i64 x.2.2.2.2)
theorem OwnH.setH {w : World} {base g n c i : Nat} {X : List StrD} {x : StrD} (h : OwnH w base g n c X) : OwnH (setH w g i x) base g n c (X.set i x) := by
  have t0 := h.owns.stored (i * 2) (.slice (some ⟨x.1, x.2.1, none⟩) x.2.2.1 x.2.2.2.1)
  have t1 := t0.1.stored (i * 2 + 1) (.int .i64 x.2.2.2.2)
  refine ⟨?_, by simp [h.len]⟩
  have h1 := t1.1
  rw [flatH_set] at h1
  exact h1
theorem grown_cellH (w : World) (g o : Nat) (v : Value) : w.grownBy (w.setCell ⟨g, o, none⟩ v) (some g) :=
  ⟨rfl, rfl, rfl, by simp [World.setCell], fun k _ hk => Below.heap_setCell _ _ _ _ (fun e => hk (by rw [e]))⟩
theorem grown_setH (w : World) (g i : Nat) (x : StrD) : w.grownBy (Go.Proofs.YtlmgojlffgkciaaGreat.setH w g i x) (some g) := (grown_cellH _ _ _ _).trans (grown_cellH _ _ _ _)
end Go.Proofs.YtlmgojlffgkciaaGreat
