/-
  Two rows of legs that a loop fills beside a posting: how they lie, and what an append to either keeps.
-/
import Derived.Test.YtmolncbeaefjpaaBent1
import Derived.Test.YtmolncbeaefjpaaTurnP
namespace Go.Proofs.Ytmolncbeaefjpaa
open Go.RowKit

/-- What a round of the loop finds: the posting's box, the two boxes that are filled, and their rows. -/
structure TurnAt (w : World) (B Q b n c : Nat) (id : Int) (L : List LegD) (vq vb : Value) (Lq Lb : List LegD) : Prop where
  p0 : w.cell? ⟨B, 0, none⟩ = some (.int .i64 id)
  p1 : w.cell? ⟨B, 1, none⟩ = some (.slice (some ⟨b, 0, none⟩) n c)
  q0 : w.cell? ⟨Q, 0, none⟩ = some (.int .i64 id)
  q1 : w.cell? ⟨Q, 1, none⟩ = some vq
  r0 : w.cell? ⟨Q + 1, 0, none⟩ = some (.int .i64 id)
  r1 : w.cell? ⟨Q + 1, 1, none⟩ = some vb
  fq : w.frozen? ⟨Q, 1, none⟩ = false
  fr : w.frozen? ⟨Q + 1, 1, none⟩ = false
  legs : LegsAt w (some ⟨b, 0, none⟩) n c L
  oq : w.ownsRow (Q + 2) 31 3 vq Lq.length (flat Lq)
  ob : w.ownsRow (Q + 2) 31 3 vb Lb.length (flat Lb)
  apart : ∀ g, vq.ownBlock = some g → vb.ownBlock ≠ some g
  size : Q + 2 ≤ w.heap.size
  hB : B < Q
  hb : b < Q

theorem cell_far {w w' : World} {row : Option Nat} {x : Addr} {u : Value} (h : w.cell? x = some u) (hg : w.grownBy w' row) (hr : some x.block ≠ row) : w'.cell? x = some u :=
  (World.cell?_of_block (hg.block x.block (World.block_lt_of_cell? _ _ h) hr)).trans h
theorem legs_far {w w' : World} {row : Option Nat} {b n c : Nat} {L : List LegD} (h : LegsAt w (some ⟨b, 0, none⟩) n c L) (hg : w.grownBy w' row) (hr : some b ≠ row) : LegsAt w' (some ⟨b, 0, none⟩) n c L := by
  refine h.moved hg.size ?_
  rintro x e hp o
  cases e
  exact World.cell?_of_block (hg.block b (h.lies _ rfl hp).1 hr)
theorem row_ne {w : World} {base e size k : Nat} {v : Value} {xs : List Value} (h : w.ownsRow base e size v k xs) {x : Nat} (hx : x < base) : some x ≠ v.ownBlock := by
  intro e'
  have := (h.lt x e'.symm).1
  omega
theorem own_ne {w : World} {base e size k : Nat} {v : Value} {xs : List Value} (h : w.ownsRow base e size v k xs) {row : Option Nat} (hr : ∀ x, row = some x → w.heap.size ≤ x) : v.ownBlock = none ∨ v.ownBlock ≠ row := by
  cases hv : v.ownBlock with
  | none => exact Or.inl rfl
  | some g =>
    refine Or.inr (fun e => ?_)
    have := (h.lt g hv).2
    have := hr g e.symm
    omega

/-- Something else has grown: a block that is none of these. -/
theorem TurnAt.grown {w w' : World} {B Q b n c : Nat} {id : Int} {L : List LegD} {vq vb : Value} {Lq Lb : List LegD} {row : Option Nat} (T : TurnAt w B Q b n c id L vq vb Lq Lb) (hg : w.grownBy w' row)
    (hr : ∀ x, row = some x → Q + 2 ≤ x) (hq : vq.ownBlock = none ∨ vq.ownBlock ≠ row) (hb : vb.ownBlock = none ∨ vb.ownBlock ≠ row) : TurnAt w' B Q b n c id L vq vb Lq Lb := by
  have ne : ∀ x, x < Q + 2 → some x ≠ row := fun x hx e => by have := hr x e.symm; omega
  have hB := T.hB
  have hbb := T.hb
  have hs := T.size
  exact ⟨cell_far T.p0 hg (ne B (by omega)), cell_far T.p1 hg (ne B (by omega)), cell_far T.q0 hg (ne Q (by omega)), cell_far T.q1 hg (ne Q (by omega)), cell_far T.r0 hg (ne (Q + 1) (by omega)), cell_far T.r1 hg (ne (Q + 1) (by omega)),
    (grown_frozen (x := ⟨Q, 1, none⟩) hg (by show Q < _; omega) (ne Q (by omega))).trans T.fq, (grown_frozen (x := ⟨Q + 1, 1, none⟩) hg (by show Q + 1 < _; omega) (ne (Q + 1) (by omega))).trans T.fr,
    legs_far T.legs hg (ne b (by omega)), T.oq.kept hg hq, T.ob.kept hg hb, T.apart, Nat.le_trans T.size hg.size, T.hB, T.hb⟩

theorem TurnAt.pushq {w w3 : World} {B Q b n c : Nat} {id : Int} {L : List LegD} {vq vb : Value} {Lq Lb : List LegD} {l : LegD} {g cap : Nat} (T : TurnAt w B Q b n c id L vq vb Lq Lb)
    (ho : w3.ownsRow (Q + 2) 31 3 (.slice (some ⟨g, 0, none⟩) (Lq.length + 1) cap) (Lq.length + 1) (flat Lq ++ flat [l])) (hg : w.grownBy w3 vq.ownBlock) (hat : vq.ownBlock = some g ∨ g = w.heap.size) :
    TurnAt (w3.setCell ⟨Q, 1, none⟩ (.slice (some ⟨g, 0, none⟩) (Lq.length + 1) cap)) B Q b n c id L (.slice (some ⟨g, 0, none⟩) (Lq.length + 1) cap) vb (Lq ++ [l]) Lb := by
  have ne : ∀ x, x < Q + 2 → some x ≠ vq.ownBlock := fun x hx => row_ne T.oq hx
  have hB := T.hB
  have hbb := T.hb
  have hs := T.size
  have gs := grown_set w3 ⟨Q, 1, none⟩ (.slice (some ⟨g, 0, none⟩) (Lq.length + 1) cap)
  have ne2 : ∀ x, x ≠ Q → some x ≠ some (⟨Q, 1, none⟩ : Addr).block := fun x hx e => hx (by cases e; rfl)
  have q13 := cell_far T.q1 hg (ne Q (by omega))
  have hgQ : Q + 2 ≤ g := (ho.lt g rfl).1
  have hbq : vb.ownBlock = none ∨ vb.ownBlock ≠ vq.ownBlock := by
    cases hv : vb.ownBlock with
    | none => exact Or.inl rfl
    | some x => exact Or.inr (fun e => T.apart x e.symm hv)
  refine ⟨cell_far (cell_far T.p0 hg (ne B (by omega))) gs (ne2 B (by omega)), cell_far (cell_far T.p1 hg (ne B (by omega))) gs (ne2 B (by omega)), ?_, ?_, cell_far (cell_far T.r0 hg (ne (Q + 1) (by omega))) gs (ne2 (Q + 1) (by omega)), cell_far (cell_far T.r1 hg (ne (Q + 1) (by omega))) gs (ne2 (Q + 1) (by omega)),
    ?_, ?_, legs_far (legs_far T.legs hg (ne b (by omega))) gs (ne2 b (by omega)), ?_, ?_, ?_, ?_, T.hB, T.hb⟩
  · refine (World.cell?_setCell_other _ _ _ _ (by simp)).trans ?_
    exact cell_far T.q0 hg (ne Q (by omega))
  · exact World.cell?_setCell_same _ _ _ q13
  · rw [World.frozen?_setCell]
    exact (grown_frozen (x := ⟨Q, 1, none⟩) hg (by show Q < _; omega) (ne Q (by omega))).trans T.fq
  · rw [World.frozen?_setCell]
    exact (grown_frozen (x := ⟨Q + 1, 1, none⟩) hg (by show Q + 1 < _; omega) (ne (Q + 1) (by omega))).trans T.fr
  · have := ho.kept gs (.inr (by simp only [Value.ownBlock]; exact ne2 g (by omega)))
    simpa [flat_append] using this
  · exact (T.ob.kept hg hbq).kept gs (by
      cases hv : vb.ownBlock with
      | none => exact Or.inl rfl
      | some x => exact Or.inr (ne2 x (by have := (T.ob.lt x hv).1; omega)))
  · intro x hx
    simp only [Value.ownBlock, Option.some.injEq] at hx
    subst hx
    rcases hat with h | h
    · exact T.apart _ h
    · intro e
      have := (T.ob.lt _ e).2
      omega
  · have := hg.size
    have := gs.size
    omega

theorem TurnAt.pushb {w w3 : World} {B Q b n c : Nat} {id : Int} {L : List LegD} {vq vb : Value} {Lq Lb : List LegD} {l : LegD} {g cap : Nat} (T : TurnAt w B Q b n c id L vq vb Lq Lb)
    (ho : w3.ownsRow (Q + 2) 31 3 (.slice (some ⟨g, 0, none⟩) (Lb.length + 1) cap) (Lb.length + 1) (flat Lb ++ flat [l])) (hg : w.grownBy w3 vb.ownBlock) (hat : vb.ownBlock = some g ∨ g = w.heap.size) :
    TurnAt (w3.setCell ⟨Q + 1, 1, none⟩ (.slice (some ⟨g, 0, none⟩) (Lb.length + 1) cap)) B Q b n c id L vq (.slice (some ⟨g, 0, none⟩) (Lb.length + 1) cap) Lq (Lb ++ [l]) := by
  have ne : ∀ x, x < Q + 2 → some x ≠ vb.ownBlock := fun x hx => row_ne T.ob hx
  have hB := T.hB
  have hbb := T.hb
  have hs := T.size
  have gs := grown_set w3 ⟨Q + 1, 1, none⟩ (.slice (some ⟨g, 0, none⟩) (Lb.length + 1) cap)
  have ne2 : ∀ x, x ≠ Q + 1 → some x ≠ some (⟨Q + 1, 1, none⟩ : Addr).block := fun x hx e => hx (by cases e; rfl)
  have q13 := cell_far T.r1 hg (ne (Q + 1) (by omega))
  have hgQ : Q + 2 ≤ g := (ho.lt g rfl).1
  have hbq : vq.ownBlock = none ∨ vq.ownBlock ≠ vb.ownBlock := by
    cases hv : vq.ownBlock with
    | none => exact Or.inl rfl
    | some x => exact Or.inr (fun e => T.apart x hv e.symm)
  refine ⟨cell_far (cell_far T.p0 hg (ne B (by omega))) gs (ne2 B (by omega)), cell_far (cell_far T.p1 hg (ne B (by omega))) gs (ne2 B (by omega)), cell_far (cell_far T.q0 hg (ne Q (by omega))) gs (ne2 Q (by omega)), cell_far (cell_far T.q1 hg (ne Q (by omega))) gs (ne2 Q (by omega)), ?_, ?_,
    ?_, ?_, legs_far (legs_far T.legs hg (ne b (by omega))) gs (ne2 b (by omega)), ?_, ?_, ?_, ?_, T.hB, T.hb⟩
  · refine (World.cell?_setCell_other _ _ _ _ (by simp)).trans ?_
    exact cell_far T.r0 hg (ne (Q + 1) (by omega))
  · exact World.cell?_setCell_same _ _ _ q13
  · rw [World.frozen?_setCell]
    exact (grown_frozen (x := ⟨Q, 1, none⟩) hg (by show Q < _; omega) (ne Q (by omega))).trans T.fq
  · rw [World.frozen?_setCell]
    exact (grown_frozen (x := ⟨Q + 1, 1, none⟩) hg (by show Q + 1 < _; omega) (ne (Q + 1) (by omega))).trans T.fr
  · exact (T.oq.kept hg hbq).kept gs (by
      cases hv : vq.ownBlock with
      | none => exact Or.inl rfl
      | some x => exact Or.inr (ne2 x (by have := (T.oq.lt x hv).1; omega)))
  · have := ho.kept gs (.inr (by simp only [Value.ownBlock]; exact ne2 g (by omega)))
    simpa [flat_append] using this
  · intro x hx
    simp only [Value.ownBlock, ne_eq, Option.some.injEq]
    rcases hat with h | h
    · intro e
      subst e
      exact T.apart _ hx h
    · intro e
      have := (T.oq.lt _ hx).2
      omega
  · have := hg.size
    have := gs.size
    omega

end Go.Proofs.Ytmolncbeaefjpaa
