/-
  A list of entries of the call's own, or the nil list. No function of the program is walked here.
-/
import Derived.Test.YthhiahjafhkbbaaGreatBn05
namespace Go.Proofs.YthhiahjafhkbbaaGreat
open Go.RowKit

structure OwnO (w : World) (base : Nat) (a : Option Addr) (n c : Nat) (L : List EntD) : Prop where
  nil : a = none → n = 0 ∧ c = 0 ∧ L = []
  own : ∀ x, a = some x → ∃ g, x = ⟨g, 0, none⟩ ∧ OwnE w base g n c L
theorem OwnO.some {w : World} {base g n c : Nat} {L : List EntD} (h : OwnE w base g n c L) : OwnO w base (some ⟨g, 0, none⟩) n c L := ⟨(fun e => by cases e), (fun x e => by cases e; exact ⟨g, rfl, h⟩)⟩
theorem OwnO.none (w : World) (base : Nat) : OwnO w base none 0 0 [] := ⟨fun _ => ⟨rfl, rfl, rfl⟩, fun x e => by cases e⟩
theorem OwnO.len {w : World} {base : Nat} {a : Option Addr} {n c : Nat} {L : List EntD} (h : OwnO w base a n c L) : L.length = n := by
  cases a with
  | none => obtain ⟨h1, _, h3⟩ := h.nil rfl; rw [h1, h3]; rfl
  | some x => obtain ⟨g, _, h2⟩ := h.own x rfl; exact h2.len
theorem OwnO.entsAt {w : World} {base : Nat} {a : Option Addr} {n c : Nat} {L : List EntD} (h : OwnO w base a n c L) : EntsAt w a n c L := by
  cases a with
  | none =>
    obtain ⟨h1, h2, h3⟩ := h.nil rfl
    subst h1 h2 h3
    exact ⟨rfl, Nat.le_refl _, Nat.zero_le _, by simp, fun _ => rfl, (fun x e => by cases e), (fun x e => by cases e)⟩
  | some x => obtain ⟨g, rfl, h2⟩ := h.own x rfl; exact h2.entsAt
theorem OwnO.lt {w : World} {base : Nat} {a : Option Addr} {n c : Nat} {L : List EntD} (h : OwnO w base a n c L) : ∀ x, a = .some x → base ≤ x.block ∧ x.block < w.heap.size := fun x e => by
  obtain ⟨g, rfl, h2⟩ := h.own x e
  exact h2.lt
theorem OwnO.grown {w w' : World} {base : Nat} {a : Option Addr} {n c : Nat} {L : List EntD} {row : Option Nat} (h : OwnO w base a n c L) (hg : w.grownBy w' row) (hne : ∀ x, a = .some x → .some x.block ≠ row) : OwnO w' base a n c L :=
  ⟨h.nil, fun x e => by obtain ⟨g, rfl, h2⟩ := h.own x e; exact ⟨g, rfl, h2.grown hg (hne _ e)⟩⟩
theorem OwnO.mono {w : World} {base base' : Nat} {a : Option Addr} {n c : Nat} {L : List EntD} (h : OwnO w base a n c L) (hb : base' ≤ base) : OwnO w base' a n c L :=
  ⟨h.nil, fun x e => by obtain ⟨g, rfl, h2⟩ := h.own x e; exact ⟨g, rfl, h2.mono hb⟩⟩
theorem grown_of_below {w w' : World} (hb : Below w.heap.size w w') : w.grownBy w' none := ⟨hb.os, hb.tape, hb.output, hb.size, fun k hk _ => hb.block k hk⟩
theorem OwnO.below {w w' : World} {base : Nat} {a : Option Addr} {n c : Nat} {L : List EntD} (h : OwnO w base a n c L) (hb : Below w.heap.size w w') : OwnO w' base a n c L := h.grown (grown_of_below hb) (fun x _ e => by cases e)
theorem cell_five (w : World) (T : TypeId) (s t : ByteArray) (q d n : Int) : ∀ j u, (entCells (s, q, d, t, n))[j]? = some u → (w.alloc (.cells #[.string s, .int .i64 q, .int .i64 d, .string t, .int .i64 n] T)).cell? ((⟨w.heap.size, 0, none⟩ : Addr).add j) = some u := by
  intro j u hj
  rw [Go.WideShapes.add_plain]
  match j, hj with
  | 0, hj => simp [entCells] at hj; subst hj; simp
  | 1, hj => simp [entCells] at hj; subst hj; simp
  | 2, hj => simp [entCells] at hj; subst hj; simp
  | 3, hj => simp [entCells] at hj; subst hj; simp
  | 4, hj => simp [entCells] at hj; subst hj; simp
  | j + 5, hj => simp [entCells] at hj

theorem rows_ne {W : World} {b b' e e' s s' n n' : Nat} {v v' : Value} {xs xs' : List Value} (h : W.ownsRow b e s v n xs) (h' : W.ownsRow b' e' s' v' n' xs') (hne : e ≠ e') {k : Nat} (hk : v.ownBlock = some k) : v'.ownBlock ≠ some k := fun hk' => by
  rcases h.2 with ⟨rfl, _⟩ | ⟨g, cap, cur, rfl, _, hg, _⟩
  · cases hk
  · cases hk
    rcases h'.2 with ⟨rfl, _⟩ | ⟨g', cap', cur', rfl, _, hg', _⟩
    · cases hk'
    · cases hk'
      rw [hg] at hg'
      cases hg'
      exact hne rfl
end Go.Proofs.YthhiahjafhkbbaaGreat
