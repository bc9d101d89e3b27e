/-
  A right tree's lists as the program shares them, each level's row in a block.
-/
import Derived.Test.YtlmgojlffgkciaaGreatCe41
namespace Go.Proofs.YtlmgojlffgkciaaGreat
open Go.RowKit
theorem TreeIn.shareN {lo : Nat} {w : World} {sq : Int} {am ak : Option Addr} {nm cm b nv cv nk ck : Nat} {M : List EntD} {V : List (List RunD)} {S : List Int} (hT : TreeIn lo w am nm cm (some ⟨b, 0, none⟩) nv cv ak nk ck M V S) (htb : treeB sq M V S = true) (hN : LevNN w b V) : ∃ A B C e0 n0 c0 e1 n1 c1 e2 n2 c2, nv = 3 ∧ V = [A, B, C] ∧ ShIn w am nm cm (some ⟨e0, 0, none⟩) n0 c0 (some ⟨e1, 0, none⟩) n1 c1 (some ⟨e2, 0, none⟩) n2 c2 ak nk ck M A B C S ∧ (∀ w', Below w.heap.size w w' → Calls Tryz.prog 53 #[.agg #[.int .i64 sq, .slice am nm cm, .slice (some ⟨b, 0, none⟩) 3 cv, .slice ak nk ck]] w' fun e w'' => e = .returned (.tuple #[.agg #[.int .i64 sq, .slice am nm cm, .slice (some ⟨e0, 0, none⟩) n0 c0, .slice (some ⟨e1, 0, none⟩) n1 c1, .slice (some ⟨e2, 0, none⟩) n2 c2, .slice ak nk ck], .bool true]) ∧ Below w'.heap.size w' w'') := by
  obtain ⟨A, B, C, hV3⟩ := three_of htb
  subst hV3
  have hnv : nv = 3 := hT.levels.length.symm
  subst hnv
  obtain ⟨A', a0, n0, c0, hA, l0, hR0⟩ := hT.levels.level (Below.refl _ w) 0 (by omega)
  obtain ⟨B', a1, n1, c1, hB, l1, hR1⟩ := hT.levels.level (Below.refl _ w) 1 (by omega)
  obtain ⟨C', a2, n2, c2, hC, l2, hR2⟩ := hT.levels.level (Below.refl _ w) 2 (by omega)
  simp only [List.getElem?_cons_zero, List.getElem?_cons_succ, Option.some.injEq] at hA hB hC
  subst hA hB hC
  rw [Nat.zero_add] at l0 l1 l2
  obtain ⟨e0, _, _, f0⟩ := hN 0 A rfl
  obtain ⟨e1, _, _, f1⟩ := hN 1 B rfl
  obtain ⟨e2, _, _, f2⟩ := hN 2 C rfl
  rw [l0] at f0
  rw [l1] at f1
  rw [l2] at f2
  cases f0
  cases f1
  cases f2
  refine ⟨A, B, C, e0, n0, c0, e1, n1, c1, e2, n2, c2, rfl, rfl, ⟨hT.mem.1, hR0.mono (Nat.zero_le _), hR1.mono (Nat.zero_le _), hR2.mono (Nat.zero_le _), hT.snaps.lower (Nat.zero_le _)⟩, fun w' k => ?_⟩
  have := implShare lo sq am ak nm cm b 0 cv nk ck M A B C S _ _ _ n0 c0 n1 c1 n2 c2 w' (hT.mem.1.keep k) (hT.snaps.keep k) (hR0.keep k) (hR1.keep k) (hR2.keep k) (cell_later k l0) (cell_later k l1) (cell_later k l2)
  rw [htb] at this
  exact this
end Go.Proofs.YtlmgojlffgkciaaGreat
