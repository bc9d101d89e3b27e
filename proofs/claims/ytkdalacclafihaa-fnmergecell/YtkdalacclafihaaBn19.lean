/-
  The marks that loops over functions leave in a frame, and leaving with them; no statement of the program stands here.
  A list of entries of the call's own, or the nil list. No function of the program is walked here.
-/
import Derived.Test.YtkdalacclafihaaBn17
import Derived.Maps.OwnIn
import Derived.Test.YtkdalacclafihaaBn04
namespace Go.Proofs.Ytkdalacclafihaa
open Go.RowKit Go.Shelf

/-- The marks that loops over functions leave. -/
def marksOf (ds : List Nat) : List Deferred := ds.map (fun D => { target := .collected D, args := #[] })
/-- The marks' blocks. -/
def MarksAt (base : Nat) (w : World) (ds : List Nat) : Prop := ds.Nodup ∧ ∀ D ∈ ds, base ≤ D ∧ w.heap[D]? = some (.deferred (some []))
/-- Leaving with marks. -/
theorem leaves_marks {F : Fence} {n base : Nat} {P : Program} {fn : Func} {tmps : Array Value} {R : Ending → World → Prop} : ∀ (ds : List Nat) (W : World), MarksAt base W ds →
    (∀ W', Below base W W' → (∀ (k : Nat) (o : Obj), W.heap[k]? = some o → o.isCells = true → W'.heap[k]? = some o) → LeavesInM F n P fn tmps R [] .returning W') → LeavesInM F n P fn tmps R (marksOf ds) .returning W
  | [], W, _, h => h W (Below.refl _ _) (fun _ _ h _ => h)
  | D :: ds, W, hm, h => by
    obtain ⟨hnd, hD⟩ := hm
    rw [List.nodup_cons] at hnd
    have hk := (hD D (List.mem_cons_self ..)).2
    have hb := (hD D (List.mem_cons_self ..)).1
    have hB : Below base W (W.putObj D (.deferred none)) := ⟨rfl, rfl, rfl, by simp [World.putObj], fun k hk => World.putObj_heap_other (by omega)⟩
    refine ⟨by simp, .inl ⟨D, _, rfl, run_takeDeferred hk, ?_⟩⟩
    refine leaves_marks ds (W.putObj D (.deferred none)) ⟨hnd.2, fun D' hD' => ⟨(hD D' (List.mem_cons_of_mem _ hD')).1, ?_⟩⟩ (fun W' hb' hc' => h W' (hB.trans hb') (fun k o ho hc => hc' k o ?_ hc))
    · have hne : D' ≠ D := fun e => hnd.1 (e ▸ hD')
      exact (World.putObj_heap_other hne).trans (hD D' (List.mem_cons_of_mem _ hD')).2
    · have hne : k ≠ D := fun e => by subst e; rw [hk] at ho; cases ho; cases hc
      exact (World.putObj_heap_other hne).trans ho
theorem keepS_box {n₀ B : Nat} {W W' : World} {t : TypeId} {v : Value} (h : Below n₀ W W') (hv : Boxed W B t v) (hv' : Boxed W' B t v) : KeepS (fun k => k < n₀ ∨ k = B) W W' :=
  ⟨h.os, h.tape, h.output, h.size, fun k hk => by
    rcases hk with hk | rfl
    · exact h.block k hk
    · exact (show W'.heap[k]? = _ from hv').trans (show W.heap[k]? = _ from hv).symm⟩
theorem marks_own {β : Type} {base : Nat} {ds : List Nat} {B : Nat} (hB : ∀ D ∈ ds, D < B) : OwnFrom B (fun (_ : β) W => MarksAt base W ds) := fun _ X Y row hs hg hr =>
  ⟨hs.1, fun D hD => ⟨(hs.2 D hD).1, by
    have h0 := (hs.2 D hD).2
    refine (hg.block D (Array.getElem?_eq_some_iff.1 h0).1 (fun e => ?_)).trans h0
    have := (hr D e.symm).1
    have := hB D hD
    omega⟩⟩
theorem MarksAt.others {base : Nat} {w w' : World} {ds : List Nat} (h : MarksAt base w ds) (hk : KeepsOthers w w') : MarksAt base w' ds := ⟨h.1, fun D hD => ⟨(h.2 D hD).1, hk.same D _ (h.2 D hD).2 rfl⟩⟩
end Go.Proofs.Ytkdalacclafihaa

namespace Go.Proofs.Ytkdalacclafihaa
open Go.RowKit

structure OwnO (w : World) (base : Nat) (a : Option Addr) (n c : Nat) (L : List EntD) : Prop where
  nil : a = none → n = 0 ∧ c = 0 ∧ L = []
  own : ∀ x, a = some x → ∃ g, x = ⟨g, 0, none⟩ ∧ OwnE w base g n c L
theorem OwnO.some {w : World} {base g n c : Nat} {L : List EntD} (h : OwnE w base g n c L) : OwnO w base (some ⟨g, 0, none⟩) n c L := ⟨(fun e => by cases e), (fun x e => by cases e; exact ⟨g, rfl, h⟩)⟩
theorem OwnO.none (w : World) (base : Nat) : OwnO w base none 0 0 [] := ⟨fun _ => ⟨rfl, rfl, rfl⟩, fun x e => by cases e⟩
theorem OwnO.len {w : World} {base : Nat} {a : Option Addr} {n c : Nat} {L : List EntD} (h : OwnO w base a n c L) : L.length = n := by
  cases a with
  | none => obtain ⟨h1, _, h3⟩ := h.nil rfl; rw [h1, h3]; rfl
  | some x => obtain ⟨g, _, h2⟩ := h.own x rfl; exact h2.len
theorem OwnO.entsAt {w : World} {base : Nat} {a : Option Addr} {n c : Nat} {L : List EntD} (h : OwnO w base a n c L) : EntsAt w a n c L := by
  cases a with
  | none =>
    obtain ⟨h1, h2, h3⟩ := h.nil rfl
    subst h1 h2 h3
    exact ⟨rfl, Nat.le_refl _, Nat.zero_le _, by simp, fun _ => rfl, (fun x e => by cases e), (fun x e => by cases e)⟩
  | some x => obtain ⟨g, rfl, h2⟩ := h.own x rfl; exact h2.entsAt
theorem OwnO.lt {w : World} {base : Nat} {a : Option Addr} {n c : Nat} {L : List EntD} (h : OwnO w base a n c L) : ∀ x, a = .some x → base ≤ x.block ∧ x.block < w.heap.size := fun x e => by
  obtain ⟨g, rfl, h2⟩ := h.own x e
  exact h2.lt
theorem OwnO.grown {w w' : World} {base : Nat} {a : Option Addr} {n c : Nat} {L : List EntD} {row : Option Nat} (h : OwnO w base a n c L) (hg : w.grownBy w' row) (hne : ∀ x, a = .some x → .some x.block ≠ row) : OwnO w' base a n c L :=
  ⟨h.nil, fun x e => by obtain ⟨g, rfl, h2⟩ := h.own x e; exact ⟨g, rfl, h2.grown hg (hne _ e)⟩⟩
theorem OwnO.mono {w : World} {base base' : Nat} {a : Option Addr} {n c : Nat} {L : List EntD} (h : OwnO w base a n c L) (hb : base' ≤ base) : OwnO w base' a n c L :=
  ⟨h.nil, fun x e => by obtain ⟨g, rfl, h2⟩ := h.own x e; exact ⟨g, rfl, h2.mono hb⟩⟩
theorem grown_of_below {w w' : World} (hb : Below w.heap.size w w') : w.grownBy w' none := ⟨hb.os, hb.tape, hb.output, hb.size, fun k hk _ => hb.block k hk⟩
theorem OwnO.below {w w' : World} {base : Nat} {a : Option Addr} {n c : Nat} {L : List EntD} (h : OwnO w base a n c L) (hb : Below w.heap.size w w') : OwnO w' base a n c L := h.grown (grown_of_below hb) (fun x _ e => by cases e)
theorem cell_five (w : World) (T : TypeId) (s t : ByteArray) (q d n : Int) : ∀ j u, (entCells (s, q, d, t, n))[j]? = some u → (w.alloc (.cells #[.string s, .int .i64 q, .int .i64 d, .string t, .int .i64 n] T)).cell? ((⟨w.heap.size, 0, none⟩ : Addr).add j) = some u := by
  intro j u hj
  rw [Go.WideShapes.add_plain]
  match j, hj with
  | 0, hj => simp [entCells] at hj; subst hj; simp
  | 1, hj => simp [entCells] at hj; subst hj; simp
  | 2, hj => simp [entCells] at hj; subst hj; simp
  | 3, hj => simp [entCells] at hj; subst hj; simp
  | 4, hj => simp [entCells] at hj; subst hj; simp
  | j + 5, hj => simp [entCells] at hj

theorem rows_ne {W : World} {b b' e e' s s' n n' : Nat} {v v' : Value} {xs xs' : List Value} (h : W.ownsRow b e s v n xs) (h' : W.ownsRow b' e' s' v' n' xs') (hne : e ≠ e') {k : Nat} (hk : v.ownBlock = some k) : v'.ownBlock ≠ some k := fun hk' => by
  rcases h.2 with ⟨rfl, _⟩ | ⟨g, cap, cur, rfl, _, hg, _⟩
  · cases hk
  · cases hk
    rcases h'.2 with ⟨rfl, _⟩ | ⟨g', cap', cur', rfl, _, hg', _⟩
    · cases hk'
    · cases hk'
      rw [hg] at hg'
      cases hg'
      exact hne rfl
end Go.Proofs.Ytkdalacclafihaa
