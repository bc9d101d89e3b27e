/-
  A heap of stretches that may still be nothing: its state, and what pushing one more leaves. No function is walked here.
-/
import Derived.Test.YtlmgojlffgkciaaGreatGaXMgO
namespace Go.Proofs.YtlmgojlffgkciaaGreat
open Go.RowKit
structure HpV (w : World) (base BH : Nat) (v : Value) (X : List StrD) (H : List (List EntD × Nat)) : Prop where
  box : Boxed w BH 129 v
  row : w.ownsRow base 136 2 v H.length (flatH X)
  xl : X.length = H.length
  rest : ∀ (k : Nat) x h, X[k]? = some x → H[k]? = some h → ∃ e l, h = (e :: l, x.2.2.2.2) ∧ EntsAt w (some ⟨x.1, x.2.1, none⟩) x.2.2.1 x.2.2.2.1 (e :: l)
  low : ∀ x ∈ X, x.1 < base
  hB : base ≤ BH
theorem HpV.empty {w : World} {base BH : Nat} (h : Boxed w BH 129 (.slice none 0 0)) (hB : base ≤ BH) : HpV w base BH (.slice none 0 0) [] [] :=
  ⟨h, ⟨rfl, .inl ⟨rfl, rfl⟩⟩, rfl, (fun k x h hx => by simp at hx), (fun x hx => by cases hx), hB⟩
theorem HpV.grown {w w' : World} {base BH : Nat} {v : Value} {X : List StrD} {H : List (List EntD × Nat)} {row : Option Nat} (h : HpV w base BH v X H) (hg : w.grownBy w' row) (h1 : some BH ≠ row) (h2 : ∀ g, v.ownBlock = some g → some g ≠ row) (h3 : ∀ r, row = some r → base ≤ r) : HpV w' base BH v X H := by
  refine ⟨h.box.kept hg h1, h.row.kept hg ?_, h.xl, fun k x s hx hs => ?_, h.low, h.hB⟩
  · cases hv : v.ownBlock with
    | none => exact .inl rfl
    | some g => exact .inr (h2 g hv)
  · obtain ⟨e, l, r1, r2⟩ := h.rest k x s hx hs
    refine ⟨e, l, r1, r2.grownB hg (fun y ey _ => ?_)⟩
    cases ey
    intro e'
    have h4 := h3 _ e'.symm
    have h5 := h.low x (List.mem_of_getElem? hx)
    exact absurd h4 (by simp only; omega)
theorem HpV.below {w w' : World} {base BH : Nat} {v : Value} {X : List StrD} {H : List (List EntD × Nat)} (h : HpV w base BH v X H) (hb : Below w.heap.size w w') : HpV w' base BH v X H :=
  h.grown (row := none) (grown_none hb) (by simp) (fun g _ => by simp) (fun r e => by cases e)
theorem HpV.cells {w : World} {base BH : Nat} {v : Value} {X : List StrD} {H : List (List EntD × Nat)} (h : HpV w base BH v X H) {g : Nat} (hg : v.ownBlock = some g) : ∃ cc, w.heap[g]? = some (.cells cc 136 (0, 0)) := by
  rcases h.row.2 with ⟨hv, _⟩ | ⟨g', cap, cur, hv, _, hc, _⟩
  · rw [hv] at hg; cases hg
  · rw [hv] at hg
    cases hg
    exact ⟨_, hc⟩
theorem HpV.own {w w' : World} {base BH B : Nat} {v : Value} {X : List StrD} {H : List (List EntD × Nat)} {row : Option Nat} (h : HpV w base BH v X H) (hB : base ≤ B) (hg : w.grownBy w' row) (hr : ∀ r, row = some r → B ≤ r ∧ ∃ o : Obj, w.heap[r]? = some o ∧ o.isCells = false) : HpV w' base BH v X H := by
  refine h.grown hg (fun e => ?_) (fun g hg' e => ?_) (fun r e => by have := (hr r e).1; omega)
  · obtain ⟨_, o, ho, hc⟩ := hr _ e.symm
    rw [show w.heap[BH]? = _ from h.box] at ho
    cases ho
    cases hc
  · obtain ⟨_, o, ho, hc⟩ := hr _ e.symm
    obtain ⟨cc, hcc⟩ := h.cells hg'
    rw [hcc] at ho
    cases ho
    cases hc
theorem HpV.hp {w : World} {base BH g n c : Nat} {X : List StrD} {H : List (List EntD × Nat)} (h : HpV w base BH (.slice (some ⟨g, 0, none⟩) n c) X H) (hn : H.length = n) : HpSt w base BH g n c X H := by
  have hxl := h.xl
  have hO : OwnH w base g n c X := ⟨by have := h.row; rw [hn] at this; exact this, by omega⟩
  refine ⟨h.box.cell, hO, hn, fun k x s hx hs => ?_, ?_⟩
  · obtain ⟨e, l, r1, r2⟩ := h.rest k x s hx hs
    have h1 := h.low x (List.mem_of_getElem? hx)
    have h2 := hO.lt
    have h3 := h.hB
    exact ⟨e :: l, r1, r2, by omega, by omega, by omega⟩
  · intro e
    exact (h.box.not_row (by decide) h.row) (by rw [e]; rfl)
theorem HpV.live {w : World} {base BH : Nat} {v : Value} {X : List StrD} {H : List (List EntD × Nat)} (h : HpV w base BH v X H) : ∀ s ∈ H, s.1 ≠ [] := fun s hs => by
  obtain ⟨k, hk⟩ := List.getElem?_of_mem hs
  have hl := (List.getElem?_eq_some_iff.1 hk).1
  obtain ⟨e, l, rfl, _⟩ := h.rest k _ s (List.getElem?_eq_getElem (by rw [h.xl]; exact hl)) hk
  exact fun e => by cases e
theorem HpV.of {w w' : World} {base BH g n c : Nat} {v : Value} {X X' : List StrD} {H H' : List (List EntD × Nat)} (h : HpV w base BH v X H) (hS : HpSt w' base BH g n c X' H') (hx : X'.Perm X) (hv : ∀ s ∈ H', s.1 ≠ []) (hb : Boxed w' BH 129 (.slice (some ⟨g, 0, none⟩) n c)) : HpV w' base BH (.slice (some ⟨g, 0, none⟩) n c) X' H' := by
  refine ⟨hb, by rw [hS.len]; exact hS.own.owns, by rw [hS.len]; exact hS.own.len, fun k x s hx' hs => ?_, fun x hx' => h.low x (hx.mem_iff.1 hx'), h.hB⟩
  obtain ⟨l0, rfl, r2, _⟩ := hS.rest k x s hx' hs
  obtain ⟨e, l, rfl⟩ := List.exists_cons_of_ne_nil (hv _ (List.mem_of_getElem? hs))
  exact ⟨e, l, rfl, r2⟩
def KeptB (BH : Nat) (w w' : World) : Prop := ∀ (B : Nat) (T : TypeId) (u : Value), Boxed w B T u → T ≠ 136 → B ≠ BH → Boxed w' B T u
theorem KeptB.trans {BH : Nat} {a b c : World} (h : KeptB BH a b) (k : KeptB BH b c) : KeptB BH a c := fun B T u hb hT hB => k B T u (h B T u hb hT hB) hT hB
theorem KeptB.below {BH : Nat} {a b : World} (h : Below a.heap.size a b) : KeptB BH a b := fun B T u hb _ _ => hb.kept (grown_none h) (by simp)
theorem KeptB.grown {BH g : Nat} {a b : World} (h : a.grownBy b (some g)) (hg : ∃ cc, a.heap[g]? = some (.cells cc 136 (0, 0))) : KeptB BH a b := fun B T u hb hT _ => hb.kept h (fun e => by
  have e' := Option.some.inj e
  subst e'
  obtain ⟨cc, hc⟩ := hg
  have hc' := (show a.heap[B]? = _ from hb).symm.trans hc
  cases hc'
  exact hT rfl)
theorem flatH_snoc (X : List StrD) (x : StrD) : flatH (X ++ [x]) = flatH X ++ strCells x := by rw [flatH_append]; simp [flatH]
theorem HpV.push {W w1 : World} {base BH g' c' : Nat} {v : Value} {X : List StrD} {H : List (List EntD × Nat)} {x : StrD} {e : EntD} {l : List EntD} (h : HpV W base BH v X H) (hE : EntsAt W (some ⟨x.1, x.2.1, none⟩) x.2.2.1 x.2.2.2.1 (e :: l)) (hx : x.1 < base)
    (hown : w1.ownsRow base 136 2 (.slice (some ⟨g', 0, none⟩) (H.length + 1) c') (H.length + 1) (flatH X ++ strCells x)) (hgrow : W.grownBy w1 v.ownBlock) :
    Boxed w1 BH 129 v ∧ HpV (w1.setCell ⟨BH, 0, none⟩ (.slice (some ⟨g', 0, none⟩) (H.length + 1) c')) base BH (.slice (some ⟨g', 0, none⟩) (H.length + 1) c') (X ++ [x]) (H ++ [(e :: l, x.2.2.2.2)]) ∧ KeepsOthers W (w1.setCell ⟨BH, 0, none⟩ (.slice (some ⟨g', 0, none⟩) (H.length + 1) c')) ∧ (base ≤ W.heap.size → Below base W (w1.setCell ⟨BH, 0, none⟩ (.slice (some ⟨g', 0, none⟩) (H.length + 1) c'))) ∧ KeptB BH W (w1.setCell ⟨BH, 0, none⟩ (.slice (some ⟨g', 0, none⟩) (H.length + 1) c')) := by
  have b1 := h.box.kept hgrow (h.box.not_row (by decide) h.row)
  have hgs := grownBy_setCell' w1 BH (.slice (some ⟨g', 0, none⟩) (H.length + 1) c')
  have hlow : ∀ (y : StrD) (e0 : EntD) (l0 : List EntD), y.1 < base → EntsAt W (some ⟨y.1, y.2.1, none⟩) y.2.2.1 y.2.2.2.1 (e0 :: l0) → EntsAt (w1.setCell ⟨BH, 0, none⟩ (.slice (some ⟨g', 0, none⟩) (H.length + 1) c')) (some ⟨y.1, y.2.1, none⟩) y.2.2.1 y.2.2.2.1 (e0 :: l0) := by
    intro y e0 l0 hy hy2
    refine (hy2.grownB hgrow (fun z ez _ e' => ?_)).grownB hgs (fun z ez _ e' => ?_)
    · cases ez
      have := (h.row.lt _ e'.symm).1
      simp only at this
      omega
    · cases ez
      have h7 := Option.some.inj e'
      have h8 := h.hB
      simp only at h7
      omega
  refine ⟨b1, ⟨b1.set _, ?_, ?_, ?_, ?_, h.hB⟩, ?_, fun hs => ?_, fun B T u hb hT hB => Boxed.kept (hb.kept hgrow (hb.not_row hT h.row)) hgs (fun e => hB (Option.some.inj e))⟩
  · rw [List.length_append, flatH_snoc]
    exact hown.kept hgs (.inr (b1.not_row (by decide) hown).symm)
  · rw [List.length_append, List.length_append, h.xl]; rfl
  · intro k y s hy hs
    by_cases hk : k < X.length
    · rw [List.getElem?_append_left hk] at hy
      rw [List.getElem?_append_left (by rw [← h.xl]; exact hk)] at hs
      obtain ⟨e0, l0, r1, r2⟩ := h.rest k y s hy hs
      exact ⟨e0, l0, r1, hlow y e0 l0 (h.low y (List.mem_of_getElem? hy)) r2⟩
    · rw [List.getElem?_append_right (by omega)] at hy
      rw [List.getElem?_append_right (by rw [← h.xl]; omega), ← h.xl] at hs
      have hk0 : k - X.length = 0 := by
        have := (List.getElem?_eq_some_iff.1 hy).1
        simp at this
        omega
      rw [hk0] at hy hs
      simp at hy hs
      subst hy
      subst hs
      exact ⟨e, l, rfl, hlow _ e l hx hE⟩
  · intro y hy
    rcases List.mem_append.1 hy with h1 | h1
    · exact h.low y h1
    · rw [List.mem_singleton] at h1
      subst h1
      exact hx
  · refine (KeepsOthers.of_grownBy hgrow fun j o ej hj => ?_).trans (KeepsOthers.setCell _ _ _)
    obtain ⟨cc, hcc⟩ := h.cells ej
    rw [hcc] at hj
    cases hj
    rfl
  · exact ((Below.refl base W).grown hgrow hs (fun k ek => (h.row.lt k ek).1)).setCell (p := ⟨BH, 0, none⟩) h.hB _
end Go.Proofs.YtlmgojlffgkciaaGreat
