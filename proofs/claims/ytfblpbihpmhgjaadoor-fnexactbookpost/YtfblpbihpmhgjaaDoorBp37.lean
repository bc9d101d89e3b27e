/-
  How a list of entries lies in memory; what that keeps; and how one that came in is opened.
-/
import Derived.Test.YtfblpbihpmhgjaaDoorProg
import Derived.Test.YtfblpbihpmhgjaaDoorBp36
import Derived.WalkKit
import Derived.WalkSpells
import Derived.WalkLawsBesides
import Derived.ProofKit
import Derived.Lib.SmallJoins
import Derived.Deep.Slices
import Derived.Deep.Strs
namespace Go.Proofs.YtfblpbihpmhgjaaDoor
open Go.RowKit Go.Joins Go.ChangeShapes Go.WideShapes

/-- The five cells of an entry. -/
def EntCells (w : World) (b o : Nat) (e : EntD) : Prop := w.cell? ⟨b, o, none⟩ = some (.string e.1) ∧ w.cell? ⟨b, o + 1, none⟩ = some (.int .i64 e.2.1) ∧ w.cell? ⟨b, o + 2, none⟩ = some (.int .i64 e.2.2.1) ∧ w.cell? ⟨b, o + 3, none⟩ = some (.string e.2.2.2.1) ∧ w.cell? ⟨b, o + 4, none⟩ = some (.int .i64 e.2.2.2.2)
theorem EntCells.moved {w w' : World} {b o : Nat} {e : EntD} (h : EntCells w b o e) (hc : ∀ o, w'.cell? ⟨b, o, none⟩ = w.cell? ⟨b, o, none⟩) : EntCells w' b o e :=
  ⟨(hc _).trans h.1, (hc _).trans h.2.1, (hc _).trans h.2.2.1, (hc _).trans h.2.2.2.1, (hc _).trans h.2.2.2.2⟩

/-- The slice at a, of that length, holds the entries L (all of them within the program's kinds). -/
structure EntsAt (w : World) (a : Option Addr) (len cap : Nat) (L : List EntD) : Prop where
  length : L.length = len
  room : len ≤ cap
  big : cap ≤ maxLen
  ents : ∀ e ∈ L, EntW e
  nil : a = none → len = 0
  lies : ∀ x, a = some x → 0 < len → x.block < w.heap.size ∧ x.spot = none
  cells : ∀ x, a = some x → ∀ i (h : i < L.length), EntCells w x.block (x.off + i * 5) L[i]

theorem EntsAt.moved {w w' : World} {a : Option Addr} {len cap : Nat} {L : List EntD} (h : EntsAt w a len cap L) (hs : w.heap.size ≤ w'.heap.size) (hc : ∀ x, a = some x → 0 < len → ∀ o, w'.cell? ⟨x.block, o, none⟩ = w.cell? ⟨x.block, o, none⟩) : EntsAt w' a len cap L where
  length := h.length
  room := h.room
  big := h.big
  ents := h.ents
  nil := h.nil
  lies := fun x e hp => ⟨Nat.lt_of_lt_of_le (h.lies x e hp).1 hs, (h.lies x e hp).2⟩
  cells := fun x e i hi => (h.cells x e i hi).moved (hc x e (by have := h.length; omega))
theorem EntsAt.below {B : Nat} {w w' : World} {a : Option Addr} {len cap : Nat} {L : List EntD} (h : EntsAt w a len cap L) (hb : Below B w w') (hB : ∀ x, a = some x → 0 < len → x.block < B) : EntsAt w' a len cap L :=
  h.moved hb.size (fun x e hp o => hb.cell (p := ⟨x.block, o, none⟩) (hB x e hp))
theorem EntsAt.keep {w w' : World} {a : Option Addr} {len cap : Nat} {L : List EntD} (h : EntsAt w a len cap L) (hb : Below w.heap.size w w') : EntsAt w' a len cap L := h.below hb (fun x e hp => (h.lies x e hp).1)
/-- A store into another block leaves the entries. -/
theorem EntsAt.setCell {w : World} {a : Option Addr} {len cap : Nat} {L : List EntD} (h : EntsAt w a len cap L) (p : Addr) (u : Value) (hp : ∀ x, a = some x → 0 < len → x.block ≠ p.block) : EntsAt (w.setCell p u) a len cap L :=
  h.moved (by simp [World.setCell]) (fun x e hl o => World.cell?_of_block (by rw [Below.heap_setCell _ _ _ _ (hp x e hl)]))

/-- Entry number k, in a world that has kept what lay at the start. -/
theorem EntsAt.ent {B : Nat} {w wr : World} {b off len cap : Nat} {L : List EntD} (h : EntsAt w (some ⟨b, off, none⟩) len cap L) (hb : Below B w wr) (hB : b < B) (k : Nat) (hk : k < len) :
    ∃ s q d t n, L[k]? = some (s, q, d, t, n) ∧ EntW (s, q, d, t, n) ∧ wr.cell? ⟨b, off + k * 5, none⟩ = some (.string s) ∧ wr.cell? ⟨b, off + k * 5 + 1, none⟩ = some (.int .i64 q) ∧ wr.cell? ⟨b, off + k * 5 + 2, none⟩ = some (.int .i64 d) ∧ wr.cell? ⟨b, off + k * 5 + 3, none⟩ = some (.string t) ∧ wr.cell? ⟨b, off + k * 5 + 4, none⟩ = some (.int .i64 n) := by
  have hk' : k < L.length := by rw [h.length]; exact hk
  obtain ⟨c0, c1, c2, c3, c4⟩ := (h.cells _ rfl k hk').moved (fun o => hb.cell (p := ⟨b, o, none⟩) hB)
  exact ⟨L[k].1, L[k].2.1, L[k].2.2.1, L[k].2.2.2.1, L[k].2.2.2.2, List.getElem?_eq_getElem hk', h.ents _ (List.getElem_mem hk'), c0, c1, c2, c3, c4⟩
theorem EntsAt.form {w : World} {a : Option Addr} {len cap : Nat} {L : List EntD} (h : EntsAt w a len cap L) (hl : 1 ≤ len) : ∃ b off, a = some ⟨b, off, none⟩ ∧ b < w.heap.size := by
  cases a with
  | none => have := h.nil rfl; omega
  | some x =>
    obtain ⟨b, off, spot⟩ := x
    obtain ⟨h1, h2⟩ := h.lies _ rfl (by omega)
    simp only at h1 h2
    subst h2
    exact ⟨b, off, rfl, h1⟩

theorem trod_struct5 {H : Type} {enc : TypeId × Value → H} {P : Program} {w : World} {base : Nat} {spare : Nat → Bool} {held : Bool} {t : TypeId} {f0 f1 f2 f3 f4 : Field} {fuel : Nat} {cs : List Value} {x : DataW H × List MemPlace} (ht : P.underlying t = some (.struct #[f0, f1, f2, f3, f4])) (h : DataW.trod enc P w base spare held fuel t cs = some x) :
    ∃ y0 y1 y2 y3 y4 n, DataW.trod enc P w base spare held n f0.type ((cs.drop f0.offset).take (P.cellsOf f0.type)) = some y0 ∧ DataW.trod enc P w base spare held n f1.type ((cs.drop f1.offset).take (P.cellsOf f1.type)) = some y1 ∧ DataW.trod enc P w base spare held n f2.type ((cs.drop f2.offset).take (P.cellsOf f2.type)) = some y2 ∧ DataW.trod enc P w base spare held n f3.type ((cs.drop f3.offset).take (P.cellsOf f3.type)) = some y3 ∧ DataW.trod enc P w base spare held n f4.type ((cs.drop f4.offset).take (P.cellsOf f4.type)) = some y4 := by
  obtain ⟨xs, n, _, rfl, hl, hlen, hf⟩ := DataW.trod_struct ht h
  match xs, hlen with
  | [y0, y1, y2, y3, y4], _ => exact ⟨y0, y1, y2, y3, y4, n, by simpa using hf 0 f0 rfl, by simpa using hf 1 f1 rfl, by simpa using hf 2 f2 rfl, by simpa using hf 3 f3 rfl, by simpa using hf 4 f4 rfl⟩

set_option maxRecDepth 100000 in
/-- Entries that came in, as they lie. -/
theorem open_ents {H : Type} {enc : TypeId × Value → H} {W : World} {base fuel : Nat} {v : Value} {x : DataW H × List MemPlace} {held : Bool} (hy1 : DataW.trod enc Tryd.prog W base (fun _ => true) held fuel 37 [v] = some x) :
    ∃ (a : Option Addr) (len cap : Nat) (L : List EntD), v = .slice a len cap ∧ EntsAt W a len cap L := by
  rcases Deep.open_slice Tryd.underlying37 hy1 with ⟨hcs, _⟩ | ⟨a, len, cap, mm, n, D, Pl, hcs, hb, hl, hm, hmm, _, hx⟩
  · simp at hcs
    subst hcs
    exact ⟨none, 0, 0, [], rfl, ⟨rfl, Nat.le_refl _, Nat.zero_le _, by simp, fun _ => rfl, (fun x e => by cases e), (fun x e => by cases e)⟩⟩
  · simp at hcs
    subst hcs
    simp at hmm
    rw [Tryd.cellsEntL] at hx
    have each : ∀ i, i < mm → ∃ l : EntD, EntW l ∧ W.cell? (a.add (i * 5)) = some (.string l.1) ∧ W.cell? (a.add (i * 5 + 1)) = some (.int .i64 l.2.1) ∧ W.cell? (a.add (i * 5 + 2)) = some (.int .i64 l.2.2.1) ∧ W.cell? (a.add (i * 5 + 3)) = some (.string l.2.2.2.1) ∧ W.cell? (a.add (i * 5 + 4)) = some (.int .i64 l.2.2.2.2) := by
      intro i hi
      obtain ⟨cs', g1, g2⟩ := hx i hi
      obtain ⟨_, hlen, hcell⟩ := World.cells?_some g1
      obtain ⟨z0, z1, z2, z3, z4, n', t0, t1, t2, t3, t4⟩ := trod_struct5 Tryd.underlying83 g2
      match cs', hlen with
      | [u0, u1, u2, u3, u4], _ =>
        have k0 := hcell 0 (by omega)
        have k1 := hcell 1 (by omega)
        have k2 := hcell 2 (by omega)
        have k3 := hcell 3 (by omega)
        have k4 := hcell 4 (by omega)
        rw [Deep.add_add] at k0 k1 k2 k3 k4
        obtain ⟨s, q0, _, ws⟩ := DataW.trod_string Tryd.underlying9 t0
        obtain ⟨q, q1, _, wq⟩ := DataW.trod_int Tryd.underlying3 t1
        obtain ⟨d, q2, _, wd⟩ := DataW.trod_int Tryd.underlying3 t2
        obtain ⟨t, q3, _, wt⟩ := DataW.trod_string Tryd.underlying9 t3
        obtain ⟨nn, q4, _, wn⟩ := DataW.trod_int Tryd.underlying3 t4
        have r3 : Tryd.prog.cellsOf 9 = 1 := by kernel_rfl
        have r4 : Tryd.prog.cellsOf 3 = 1 := by kernel_rfl
        simp [r3, r4] at q0 q1 q2 q3 q4
        subst q0 q1 q2 q3 q4
        exact ⟨(s, q, d, t, nn), ⟨ws, wq, wd, wt, wn⟩, by simpa using k0, by simpa using k1, by simpa using k2, by simpa using k3, by simpa using k4⟩
    obtain ⟨f, hf⟩ := Deep.choose_lt each
    have spot : 0 < len → a.spot = none := fun hp => by
      have := (hf 0 (by omega)).2.1
      simpa [Addr.add] using World.cell?_spot this
    have plain : 0 < len → ∀ j, a.add j = ⟨a.block, a.off + j, none⟩ := fun hp j => by
      have := spot hp
      obtain ⟨b, o, sp⟩ := a
      simp only at this
      subst this
      exact add_plain _ _ _
    refine ⟨some a, len, cap, (List.range len).map f, rfl, ⟨by simp, hl, hm, ?_, (fun e => by cases e), ?_, ?_⟩⟩
    · intro l hl'
      obtain ⟨i, hi, rfl⟩ := List.mem_map.1 hl'
      exact (hf i (by have := List.mem_range.1 hi; omega)).1
    · rintro x e hp
      cases e
      refine ⟨?_, spot hp⟩
      obtain ⟨cs', g1, _⟩ := hx 0 (by omega)
      have := World.cells?_block g1 (by omega)
      simpa [Addr.add] using this
    · rintro x e i hi
      cases e
      simp at hi
      obtain ⟨_, g0, g1, g2, g3, g4⟩ := hf i (by omega)
      rw [plain (by omega)] at g0 g1 g2 g3 g4
      simp only [List.getElem_map, List.getElem_range]
      exact ⟨g0, by simpa [Nat.add_assoc] using g1, by simpa [Nat.add_assoc] using g2, by simpa [Nat.add_assoc] using g3, by simpa [Nat.add_assoc] using g4⟩

end Go.Proofs.YtfblpbihpmhgjaaDoor
