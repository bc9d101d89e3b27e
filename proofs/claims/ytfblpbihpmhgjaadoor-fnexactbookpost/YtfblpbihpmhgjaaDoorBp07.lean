/-
  How the legs of a posting that a law draws lie in memory of its own; a step law for append in a region that draws its order.
-/
import Derived.Test.YtfblpbihpmhgjaaDoorBp04
import Derived.Test.YtfblpbihpmhgjaaDoorBp06
import Derived.Deep.RegionLaw
import Derived.Deep.DeepCutAuto
namespace Go.Proofs.YtfblpbihpmhgjaaDoor
open Go.RowKit

def legCells (l : LegD) : List Value := [.string l.1, .int .i64 l.2.1, .int .i64 l.2.2]
def flat (L : List LegD) : List Value := L.flatMap legCells

theorem flat_append (A B : List LegD) : flat (A ++ B) = flat A ++ flat B := by simp [flat]
theorem flat_len (L : List LegD) : (flat L).length = L.length * 3 := by
  induction L with
  | nil => rfl
  | cons l r ih => simp [flat, legCells] at ih ⊢; omega
theorem flat_cons (l : LegD) (r : List LegD) : flat (l :: r) = .string l.1 :: .int .i64 l.2.1 :: .int .i64 l.2.2 :: flat r := rfl
theorem flat_has (L : List LegD) (j : Nat) (l : LegD) (h : L[j]? = some l) : RowHas (flat L) j l := by
  induction L generalizing j with
  | nil => simp at h
  | cons a r ih =>
    rw [flat_cons]
    cases j with
    | zero => simp at h; subst h; exact ⟨rfl, rfl, rfl⟩
    | succ j =>
      simp at h
      obtain ⟨h0, h1, h2⟩ := ih j h
      refine ⟨?_, ?_, ?_⟩
      · rw [show (j + 1) * 3 = j * 3 + 1 + 1 + 1 by omega]; simpa using h0
      · rw [show (j + 1) * 3 + 1 = j * 3 + 1 + 1 + 1 + 1 by omega]; simpa using h1
      · rw [show (j + 1) * 3 + 2 = j * 3 + 2 + 1 + 1 + 1 by omega]; simpa using h2
theorem flat_set (L : List LegD) (j : Nat) (l : LegD) (h : L[j]? = some l) (s : ByteArray) (c n : Int) :
    (flat L).set (j * 3) (.string s) = flat (L.set j (s, l.2.1, l.2.2)) ∧ (flat L).set (j * 3 + 1) (.int .i64 c) = flat (L.set j (l.1, c, l.2.2)) ∧ (flat L).set (j * 3 + 2) (.int .i64 n) = flat (L.set j (l.1, l.2.1, n)) := by
  induction L generalizing j with
  | nil => simp at h
  | cons a r ih =>
    rw [flat_cons]
    cases j with
    | zero => simp at h; subst h; exact ⟨rfl, rfl, rfl⟩
    | succ j =>
      simp at h
      obtain ⟨h0, h1, h2⟩ := ih j h
      refine ⟨?_, ?_, ?_⟩
      · rw [show (j + 1) * 3 = j * 3 + 1 + 1 + 1 by omega]; simp [flat_cons, h0]
      · rw [show (j + 1) * 3 + 1 = j * 3 + 1 + 1 + 1 + 1 by omega]; simp [flat_cons, h1]
      · rw [show (j + 1) * 3 + 2 = j * 3 + 2 + 1 + 1 + 1 by omega]; simp [flat_cons, h2]
theorem flat_one (L : List LegD) : ∀ u ∈ flat L, u.oneCell' = true := by
  intro u hu
  simp only [flat, List.mem_flatMap, legCells, List.mem_cons, List.not_mem_nil, or_false] at hu
  obtain ⟨l, _, rfl | rfl | rfl⟩ := hu <;> rfl

/-- The legs L lie in memory of the call's own, at the head of block b, from block base on. -/
structure DrawnAt (w : World) (base b n cap : Nat) (L : List LegD) : Prop where
  owns : w.ownsRow base 69 3 (.slice (some ⟨b, 0, none⟩) n cap) n (flat L)
  len : L.length = n
  legs : ∀ l ∈ L, LegW l
  accts : ∀ l ∈ L, FewB l.1

theorem DrawnAt.legsAt {w : World} {base b n cap : Nat} {L : List LegD} (h : DrawnAt w base b n cap L) : LegsAt w (some ⟨b, 0, none⟩) n cap L :=
  legsAt_of_row h.owns h.len h.legs (fun j l hl => flat_has L j l hl)
theorem DrawnAt.lt {w : World} {base b n cap : Nat} {L : List LegD} (h : DrawnAt w base b n cap L) : base ≤ b ∧ b < w.heap.size := h.owns.lt b rfl
theorem DrawnAt.grown {w w' : World} {base b n cap : Nat} {L : List LegD} {row : Option Nat} (h : DrawnAt w base b n cap L) (hg : w.grownBy w' row) (hne : some b ≠ row) : DrawnAt w' base b n cap L :=
  ⟨h.owns.kept hg (.inr hne), h.len, h.legs, h.accts⟩
theorem DrawnAt.below {w w' : World} {base b n cap : Nat} {L : List LegD} (h : DrawnAt w base b n cap L) (hb : Below w.heap.size w w') : DrawnAt w' base b n cap L := h.grown (grown_below (R := none) hb) (by simp)

theorem row_mono {w : World} {base base' e size n : Nat} {v : Value} {xs : List Value} (h : w.ownsRow base e size v n xs) (hb : base' ≤ base) : w.ownsRow base' e size v n xs := by
  obtain ⟨h1, h2⟩ := h
  refine ⟨h1, ?_⟩
  rcases h2 with h2 | ⟨g, cap, cur, hv, hg, r⟩
  · exact Or.inl h2
  · exact Or.inr ⟨g, cap, cur, hv, Nat.le_trans hb hg, r⟩
theorem DrawnAt.mono {w : World} {base base' b n cap : Nat} {L : List LegD} (h : DrawnAt w base b n cap L) (hb : base' ≤ base) : DrawnAt w base' b n cap L := ⟨row_mono h.owns hb, h.len, h.legs, h.accts⟩
theorem DrawnAt.setCell {w : World} {base b n cap : Nat} {L : List LegD} (h : DrawnAt w base b n cap L) {p : Addr} (hp : p.block ≠ b) (u : Value) : DrawnAt (w.setCell p u) base b n cap L :=
  h.grown (row := some p.block) ⟨rfl, rfl, rfl, by simp [World.setCell], fun k _ hk => Below.heap_setCell _ _ _ _ (fun e => hk (by rw [e]))⟩ (fun e => hp (by cases e; rfl))

theorem legs_news {w : World} {b off n cap : Nat} {L : List LegD} (h : LegsAt w (some ⟨b, off, none⟩) n cap L) : ∀ j u, (flat L)[j]? = some u → w.cell? ((⟨b, off, none⟩ : Addr).add j) = some u := by
  intro j u hj
  have hlt : j < (flat L).length := (List.getElem?_eq_some_iff.1 hj).1
  rw [flat_len] at hlt
  have hi : j / 3 < L.length := by omega
  obtain ⟨c0, c1, c2⟩ := h.cells _ rfl (j / 3) hi
  obtain ⟨r0, r1, r2⟩ := flat_has L (j / 3) L[j / 3] (List.getElem?_eq_getElem hi)
  have ea : (⟨b, off, none⟩ : Addr).add j = ⟨b, off + j, none⟩ := by simp [Addr.add]
  rw [ea]
  have : j = j / 3 * 3 ∨ j = j / 3 * 3 + 1 ∨ j = j / 3 * 3 + 2 := by omega
  rcases this with e | e | e
  · rw [← e] at r0 c0; rw [r0] at hj; cases hj; exact c0
  · rw [← e] at r1; rw [r1] at hj; cases hj; rw [Nat.add_assoc, ← e] at c1; exact c1
  · rw [← e] at r2; rw [r2] at hj; cases hj; rw [Nat.add_assoc, ← e] at c2; exact c2

end Go.Proofs.YtfblpbihpmhgjaaDoor
