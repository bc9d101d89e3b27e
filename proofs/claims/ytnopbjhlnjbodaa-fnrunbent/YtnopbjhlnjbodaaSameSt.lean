/-
  The two runs that the law FnRunBent draws, by a walk of its Go text.
-/
import Derived.Test.YtnopbjhlnjbodaaDrawOkR
namespace Go.Proofs.Ytnopbjhlnjbodaa
open Go.RowKit

/-- Two results' blocks, two runs' blocks, their entries, and the reader. -/
structure SmSt (w wi : World) (R : Nat) (a : Option Addr) (len cap P X X' Y Y' g n c g' c' : Nat) (m m' : Int) (L L' : List EntD) : Prop where
  all : Below w.heap.size w wi
  rd : RdAt wi R a len cap P
  x0 : ∃ v, wi.cell? ⟨X, 0, none⟩ = some v
  x1 : ∃ v, wi.cell? ⟨X, 1, none⟩ = some v
  fx : ∀ o, wi.frozen? ⟨X, o, none⟩ = false
  u0 : ∃ v, wi.cell? ⟨X', 0, none⟩ = some v
  u1 : ∃ v, wi.cell? ⟨X', 1, none⟩ = some v
  fu : ∀ o, wi.frozen? ⟨X', o, none⟩ = false
  y0 : wi.cell? ⟨Y, 0, none⟩ = some (.slice (some ⟨g, 0, none⟩) n c)
  y1 : wi.cell? ⟨Y, 1, none⟩ = some (.int .i64 m)
  z0 : wi.cell? ⟨Y', 0, none⟩ = some (.slice (some ⟨g', 0, none⟩) n c')
  z1 : wi.cell? ⟨Y', 1, none⟩ = some (.int .i64 m')
  own : OwnE wi w.heap.size g n c L
  own' : OwnE wi w.heap.size g' n c' L'
  hb : w.heap.size ≤ X ∧ w.heap.size ≤ X' ∧ w.heap.size ≤ R
  nr : X ≠ R ∧ X' ≠ R ∧ Y ≠ R ∧ Y' ≠ R ∧ g ≠ R ∧ g' ≠ R
  nx : Y ≠ X ∧ Y' ≠ X ∧ g ≠ X ∧ g' ≠ X
  nu : Y ≠ X' ∧ Y' ≠ X' ∧ g ≠ X' ∧ g' ≠ X' ∧ X ≠ X'
  ng : g' ≠ g ∧ g' ≠ Y ∧ g' ≠ Y'
  nb : ∀ b off, a = some ⟨b, off, none⟩ → 0 < len → b ≠ X ∧ b ≠ X' ∧ b ≠ g'
theorem SmSt.ltX {w wi : World} {R : Nat} {a : Option Addr} {len cap P X X' Y Y' g n c g' c' : Nat} {m m' : Int} {L L' : List EntD} (h : SmSt w wi R a len cap P X X' Y Y' g n c g' c' m m' L L') : X < wi.heap.size := by
  obtain ⟨v, hv⟩ := h.x0
  exact World.block_lt_of_cell? _ _ hv
theorem SmSt.ltU {w wi : World} {R : Nat} {a : Option Addr} {len cap P X X' Y Y' g n c g' c' : Nat} {m m' : Int} {L L' : List EntD} (h : SmSt w wi R a len cap P X X' Y Y' g n c g' c' m m' L L') : X' < wi.heap.size := by
  obtain ⟨v, hv⟩ := h.u0
  exact World.block_lt_of_cell? _ _ hv
theorem SmSt.ltY {w wi : World} {R : Nat} {a : Option Addr} {len cap P X X' Y Y' g n c g' c' : Nat} {m m' : Int} {L L' : List EntD} (h : SmSt w wi R a len cap P X X' Y Y' g n c g' c' m m' L L') : Y < wi.heap.size := World.block_lt_of_cell? _ _ h.y0
theorem SmSt.ltZ {w wi : World} {R : Nat} {a : Option Addr} {len cap P X X' Y Y' g n c g' c' : Nat} {m m' : Int} {L L' : List EntD} (h : SmSt w wi R a len cap P X X' Y Y' g n c g' c' m m' L L') : Y' < wi.heap.size := World.block_lt_of_cell? _ _ h.z0
theorem SmSt.step {wj : World} {P' Z : Nat} {L'' : List EntD} {w wi : World} {R : Nat} {a : Option Addr} {len cap P X X' Y Y' g n c g' c' : Nat} {m m' : Int} {L L' : List EntD} (h : SmSt w wi R a len cap P X X' Y Y' g n c g' c' m m' L L') (hg : wi.grownBy wj (some Z)) (hZ : w.heap.size ≤ Z) (zs : X ≠ Z ∧ X' ≠ Z ∧ Y ≠ Z ∧ Y' ≠ Z ∧ g ≠ Z) (hr : RdAt wj R a len cap P') (ho : OwnE wj w.heap.size g' n c' L'') : SmSt w wj R a len cap P' X X' Y Y' g n c g' c' m m' L L'' where
  all := h.all.grown hg h.all.size (fun k e => by cases e; exact hZ)
  rd := hr
  x0 := by obtain ⟨v, hv⟩ := h.x0; exact ⟨v, (grown_cell hg (x := ⟨X, 0, none⟩) h.ltX zs.1).trans hv⟩
  x1 := by obtain ⟨v, hv⟩ := h.x1; exact ⟨v, (grown_cell hg (x := ⟨X, 1, none⟩) h.ltX zs.1).trans hv⟩
  fx := fun o => (grown_frozen hg (x := ⟨X, o, none⟩) h.ltX (fun e => zs.1 (by cases e; rfl))).trans (h.fx o)
  u0 := by obtain ⟨v, hv⟩ := h.u0; exact ⟨v, (grown_cell hg (x := ⟨X', 0, none⟩) h.ltU zs.2.1).trans hv⟩
  u1 := by obtain ⟨v, hv⟩ := h.u1; exact ⟨v, (grown_cell hg (x := ⟨X', 1, none⟩) h.ltU zs.2.1).trans hv⟩
  fu := fun o => (grown_frozen hg (x := ⟨X', o, none⟩) h.ltU (fun e => zs.2.1 (by cases e; rfl))).trans (h.fu o)
  y0 := (grown_cell hg (x := ⟨Y, 0, none⟩) h.ltY zs.2.2.1).trans h.y0
  y1 := (grown_cell hg (x := ⟨Y, 1, none⟩) h.ltY zs.2.2.1).trans h.y1
  z0 := (grown_cell hg (x := ⟨Y', 0, none⟩) h.ltZ zs.2.2.2.1).trans h.z0
  z1 := (grown_cell hg (x := ⟨Y', 1, none⟩) h.ltZ zs.2.2.2.1).trans h.z1
  own := h.own.grown hg (fun e => zs.2.2.2.2 (by cases e; rfl))
  own' := ho
  hb := h.hb
  nr := h.nr
  nx := h.nx
  nu := h.nu
  ng := h.ng
  nb := h.nb
theorem SmSt.read {wj : World} {P' : Nat} {w wi : World} {R : Nat} {a : Option Addr} {len cap P X X' Y Y' g n c g' c' : Nat} {m m' : Int} {L L' : List EntD} (h : SmSt w wi R a len cap P X X' Y Y' g n c g' c' m m' L L') (hg : wi.grownBy wj (some R)) (hr : RdAt wj R a len cap P') : SmSt w wj R a len cap P' X X' Y Y' g n c g' c' m m' L L' :=
  h.step hg h.hb.2.2 ⟨h.nr.1, h.nr.2.1, h.nr.2.2.1, h.nr.2.2.2.1, h.nr.2.2.2.2.1⟩ hr (h.own'.grown hg (fun e => h.nr.2.2.2.2.2 (by cases e; rfl)))
theorem SmSt.below {wj : World} {w wi : World} {R : Nat} {a : Option Addr} {len cap P X X' Y Y' g n c g' c' : Nat} {m m' : Int} {L L' : List EntD} (h : SmSt w wi R a len cap P X X' Y Y' g n c g' c' m m' L L') (hb : Below wi.heap.size wi wj) : SmSt w wj R a len cap P X X' Y Y' g n c g' c' m m' L L' := h.read (grown_below hb) (h.rd.below hb)
theorem SmSt.put {k : Nat} {w wi : World} {R : Nat} {a : Option Addr} {len cap P X X' Y Y' g n c g' c' : Nat} {m m' : Int} {L L' : List EntD} (h : SmSt w wi R a len cap P X X' Y Y' g n c g' c' m m' L L') (hk : k < n) (s t : ByteArray) (q d nn : Int) (hw : EntW (s, q, d, t, nn)) :
    SmSt w (((((wi.setCell ⟨g', k * 5, none⟩ (.string s)).setCell ⟨g', k * 5 + 1, none⟩ (.int .i64 q)).setCell ⟨g', k * 5 + 2, none⟩ (.int .i64 d)).setCell ⟨g', k * 5 + 3, none⟩ (.string t)).setCell ⟨g', k * 5 + 4, none⟩ (.int .i64 nn)) R a len cap P X X' Y Y' g n c g' c' m m' L (L'.set k (s, q, d, t, nn)) := by
  have hB : ∀ b off, a = some ⟨b, off, none⟩ → 0 < len → b ≠ g' := fun b off e hp => (h.nb b off e hp).2.2
  have nR := h.nr.2.2.2.2.2
  exact h.step (grown_five wi g' (k * 5) _ _ _ _ _) h.own'.lt.1 ⟨Ne.symm h.nx.2.2.2, Ne.symm h.nu.2.2.2.1, Ne.symm h.ng.2.1, Ne.symm h.ng.2.2, Ne.symm h.ng.1⟩ (((((h.rd.other nR hB _ _).other nR hB _ _).other nR hB _ _).other nR hB _ _).other nR hB _ _) (h.own'.put hk s t q d nn hw)
theorem SmSt.at {k : Nat} {w wi : World} {R : Nat} {a : Option Addr} {len cap P X X' Y Y' g n c g' c' : Nat} {m m' : Int} {L L' : List EntD} (h : SmSt w wi R a len cap P X X' Y Y' g n c g' c' m m' L L') (hF : AllF L') (hk : k < n) :
    ∃ s t q d nn, EntF s t q d nn ∧ wi.cell? ⟨g', k * 5, none⟩ = some (.string s) ∧ wi.cell? ⟨g', k * 5 + 1, none⟩ = some (.int .i64 q) ∧ wi.cell? ⟨g', k * 5 + 2, none⟩ = some (.int .i64 d) ∧ wi.cell? ⟨g', k * 5 + 3, none⟩ = some (.string t) ∧ wi.cell? ⟨g', k * 5 + 4, none⟩ = some (.int .i64 nn) := by
  have hl : k < L'.length := by rw [h.own'.len]; exact hk
  obtain ⟨e0, e1, e2, e3, e4⟩ := h.own'.entsAt.cells _ rfl k hl
  simp only [Nat.zero_add] at e0 e1 e2 e3 e4
  exact ⟨_, _, _, _, _, hF _ (List.getElem_mem hl), e0, e1, e2, e3, e4⟩
/-- Two runs that have been drawn. -/
def SameR (w : World) (e : Ending) (w' : World) : Prop :=
  ∃ (g n c g' c' : Nat) (m m' : Int) (L L' : List EntD), e = .returned (.tuple #[.agg #[.slice (some ⟨g, 0, none⟩) n c, .int .i64 m], .agg #[.slice (some ⟨g', 0, none⟩) n c', .int .i64 m']]) ∧ OwnE w' w.heap.size g n c L ∧ OwnE w' w.heap.size g' n c' L' ∧ n ≤ 6 ∧ AllF L ∧ AllF L' ∧ (Lit.int .i64 m).wf = true ∧ (Lit.int .i64 m').wf = true ∧ Below w.heap.size w w'
end Go.Proofs.Ytnopbjhlnjbodaa
