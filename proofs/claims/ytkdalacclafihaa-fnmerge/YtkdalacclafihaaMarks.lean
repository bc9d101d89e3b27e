/-
  The marks that loops over functions leave in a frame, and leaving with them; no statement of the program stands here.
-/
import Derived.Test.YtkdalacclafihaaKeepT
import Derived.Maps.OwnIn
namespace Go.Proofs.Ytkdalacclafihaa
open Go.RowKit Go.Shelf

/-- The marks that loops over functions leave. -/
def marksOf (ds : List Nat) : List Deferred := ds.map (fun D => { target := .collected D, args := #[] })
/-- The marks' blocks. -/
def MarksAt (base : Nat) (w : World) (ds : List Nat) : Prop := ds.Nodup ∧ ∀ D ∈ ds, base ≤ D ∧ w.heap[D]? = some (.deferred (some []))
/-- Leaving with marks. -/
theorem leaves_marks {F : Fence} {n base : Nat} {P : Program} {fn : Func} {tmps : Array Value} {R : Ending → World → Prop} : ∀ (ds : List Nat) (W : World), MarksAt base W ds →
    (∀ W', Below base W W' → (∀ (k : Nat) (o : Obj), W.heap[k]? = some o → o.isCells = true → W'.heap[k]? = some o) → LeavesInM F n P fn tmps R [] .returning W') → LeavesInM F n P fn tmps R (marksOf ds) .returning W
  | [], W, _, h => h W (Below.refl _ _) (fun _ _ h _ => h)
  | D :: ds, W, hm, h => by
    obtain ⟨hnd, hD⟩ := hm
    rw [List.nodup_cons] at hnd
    have hk := (hD D (List.mem_cons_self ..)).2
    have hb := (hD D (List.mem_cons_self ..)).1
    have hB : Below base W (W.putObj D (.deferred none)) := ⟨rfl, rfl, rfl, by simp [World.putObj], fun k hk => World.putObj_heap_other (by omega)⟩
    refine ⟨by simp, .inl ⟨D, _, rfl, run_takeDeferred hk, ?_⟩⟩
    refine leaves_marks ds (W.putObj D (.deferred none)) ⟨hnd.2, fun D' hD' => ⟨(hD D' (List.mem_cons_of_mem _ hD')).1, ?_⟩⟩ (fun W' hb' hc' => h W' (hB.trans hb') (fun k o ho hc => hc' k o ?_ hc))
    · have hne : D' ≠ D := fun e => hnd.1 (e ▸ hD')
      exact (World.putObj_heap_other hne).trans (hD D' (List.mem_cons_of_mem _ hD')).2
    · have hne : k ≠ D := fun e => by subst e; rw [hk] at ho; cases ho; cases hc
      exact (World.putObj_heap_other hne).trans ho
theorem keepS_box {n₀ B : Nat} {W W' : World} {t : TypeId} {v : Value} (h : Below n₀ W W') (hv : Boxed W B t v) (hv' : Boxed W' B t v) : KeepS (fun k => k < n₀ ∨ k = B) W W' :=
  ⟨h.os, h.tape, h.output, h.size, fun k hk => by
    rcases hk with hk | rfl
    · exact h.block k hk
    · exact (show W'.heap[k]? = _ from hv').trans (show W.heap[k]? = _ from hv).symm⟩
theorem marks_own {β : Type} {base : Nat} {ds : List Nat} {B : Nat} (hB : ∀ D ∈ ds, D < B) : OwnFrom B (fun (_ : β) W => MarksAt base W ds) := fun _ X Y row hs hg hr =>
  ⟨hs.1, fun D hD => ⟨(hs.2 D hD).1, by
    have h0 := (hs.2 D hD).2
    refine (hg.block D (Array.getElem?_eq_some_iff.1 h0).1 (fun e => ?_)).trans h0
    have := (hr D e.symm).1
    have := hB D hD
    omega⟩⟩
theorem MarksAt.others {base : Nat} {w w' : World} {ds : List Nat} (h : MarksAt base w ds) (hk : KeepsOthers w w') : MarksAt base w' ds := ⟨h.1, fun D hD => ⟨(h.2 D hD).1, hk.same D _ (h.2 D hD).2 rfl⟩⟩
end Go.Proofs.Ytkdalacclafihaa
