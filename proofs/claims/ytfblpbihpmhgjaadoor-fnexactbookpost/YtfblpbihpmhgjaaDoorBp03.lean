/-
  How a list of legs lies in memory; what that keeps; and how one that came in is opened.
-/
import Derived.Test.YtfblpbihpmhgjaaDoorProg
import Derived.Test.YtfblpbihpmhgjaaDoorBp00
import Derived.Test.YtfblpbihpmhgjaaDoorBp02
import Derived.WalkKit
import Derived.WalkSpells
import Derived.WalkLawsBesides
import Derived.ProofKit
import Derived.Lib.SmallJoins
import Derived.Deep.Slices
import Derived.Deep.Strs
namespace Go.Proofs.YtfblpbihpmhgjaaDoor
open Go.RowKit Go.Joins Go.ChangeShapes Go.WideShapes

theorem Tryd.cellsPostL : Tryd.prog.cellsOf 24 = 2 := by kernel_rfl

/-- The slice at a, of that length, holds the legs L (all of them within the program's kinds). -/
structure LegsAt (w : World) (a : Option Addr) (len cap : Nat) (L : List LegD) : Prop where
  length : L.length = len
  room : len ≤ cap
  big : cap ≤ maxLen
  legs : ∀ l ∈ L, LegW l
  nil : a = none → len = 0
  lies : ∀ x, a = some x → 0 < len → x.block < w.heap.size ∧ x.spot = none
  cells : ∀ x, a = some x → ∀ i (h : i < L.length), w.cell? ⟨x.block, x.off + i * 3, none⟩ = some (.string L[i].1) ∧ w.cell? ⟨x.block, x.off + i * 3 + 1, none⟩ = some (.int .i64 L[i].2.1) ∧ w.cell? ⟨x.block, x.off + i * 3 + 2, none⟩ = some (.int .i64 L[i].2.2)

theorem LegsAt.below {B : Nat} {w w' : World} {a : Option Addr} {len cap : Nat} {L : List LegD} (h : LegsAt w a len cap L) (hb : Below B w w') (hB : ∀ x, a = some x → 0 < len → x.block < B) : LegsAt w' a len cap L where
  length := h.length
  room := h.room
  big := h.big
  legs := h.legs
  nil := h.nil
  lies := fun x e hp => ⟨Nat.lt_of_lt_of_le (h.lies x e hp).1 hb.size, (h.lies x e hp).2⟩
  cells := fun x e i hi => by
    have hx := hB x e (by have := h.length; omega)
    obtain ⟨c0, c1, c2⟩ := h.cells x e i hi
    exact ⟨(hb.cell (p := ⟨x.block, _, none⟩) hx).trans c0, (hb.cell (p := ⟨x.block, _, none⟩) hx).trans c1, (hb.cell (p := ⟨x.block, _, none⟩) hx).trans c2⟩

theorem LegsAt.keep {w w' : World} {a : Option Addr} {len cap : Nat} {L : List LegD} (h : LegsAt w a len cap L) (hb : Below w.heap.size w w') : LegsAt w' a len cap L := h.below hb (fun x e hp => (h.lies x e hp).1)

theorem LegsAt.moved {w w' : World} {a : Option Addr} {len cap : Nat} {L : List LegD} (h : LegsAt w a len cap L) (hs : w.heap.size ≤ w'.heap.size) (hc : ∀ x, a = some x → 0 < len → ∀ o, w'.cell? ⟨x.block, o, none⟩ = w.cell? ⟨x.block, o, none⟩) : LegsAt w' a len cap L where
  length := h.length
  room := h.room
  big := h.big
  legs := h.legs
  nil := h.nil
  lies := fun x e hp => ⟨Nat.lt_of_lt_of_le (h.lies x e hp).1 hs, (h.lies x e hp).2⟩
  cells := fun x e i hi => by
    have hx := hc x e (by have := h.length; omega)
    obtain ⟨c0, c1, c2⟩ := h.cells x e i hi
    exact ⟨(hx _).trans c0, (hx _).trans c1, (hx _).trans c2⟩

/-- A store into another block leaves the legs. -/
theorem LegsAt.setCell {w : World} {a : Option Addr} {len cap : Nat} {L : List LegD} (h : LegsAt w a len cap L) (p : Addr) (u : Value) (hp : ∀ x, a = some x → 0 < len → x.block ≠ p.block) : LegsAt (w.setCell p u) a len cap L :=
  h.moved (by simp [World.setCell]) (fun x e hl o => World.cell?_of_block (by rw [Below.heap_setCell _ _ _ _ (hp x e hl)]))

/-- Leg number k, in a world that has kept what lay at the start. -/
theorem LegsAt.leg {B : Nat} {w wr : World} {b off len cap : Nat} {L : List LegD} (h : LegsAt w (some ⟨b, off, none⟩) len cap L) (hb : Below B w wr) (hB : b < B) (k : Nat) (hk : k < len) :
    ∃ s c n, L[k]? = some (s, c, n) ∧ LegW (s, c, n) ∧ wr.cell? ⟨b, off + k * 3, none⟩ = some (.string s) ∧ wr.cell? ⟨b, off + k * 3 + 1, none⟩ = some (.int .i64 c) ∧ wr.cell? ⟨b, off + k * 3 + 2, none⟩ = some (.int .i64 n) := by
  have hk' : k < L.length := by rw [h.length]; exact hk
  obtain ⟨c0, c1, c2⟩ := h.cells _ rfl k hk'
  exact ⟨L[k].1, L[k].2.1, L[k].2.2, List.getElem?_eq_getElem hk', h.legs _ (List.getElem_mem hk'), (hb.cell (p := ⟨b, _, none⟩) hB).trans c0, (hb.cell (p := ⟨b, _, none⟩) hB).trans c1, (hb.cell (p := ⟨b, _, none⟩) hB).trans c2⟩

theorem LegsAt.form {w : World} {a : Option Addr} {len cap : Nat} {L : List LegD} (h : LegsAt w a len cap L) (hl : 1 ≤ len) : ∃ b off, a = some ⟨b, off, none⟩ ∧ b < w.heap.size := by
  cases a with
  | none => have := h.nil rfl; omega
  | some x =>
    obtain ⟨b, off, spot⟩ := x
    obtain ⟨h1, h2⟩ := h.lies _ rfl (by omega)
    simp only at h1 h2
    subst h2
    exact ⟨b, off, rfl, h1⟩

theorem take_all_snoc {L : List LegD} {k : Nat} {l : LegD} (hl : L[k]? = some l) (ha : (L.take k).all legB = true) (hb : legB l = true) : (L.take (k + 1)).all legB = true := by
  rw [List.take_add_one, hl]; simp [List.all_append, ha, hb]
theorem all_false {L : List LegD} {k : Nat} {l : LegD} (hl : L[k]? = some l) (hb : legB l = false) : L.all legB = false := by
  rw [Bool.eq_false_iff]; intro hall; rw [List.all_eq_true] at hall
  rw [hall l (List.mem_of_getElem? hl)] at hb; cases hb
theorem postB_id0 {id : Int} {L : List LegD} (h : id < 0) : postB id L = false := by
  have : decide (0 ≤ id) = false := decide_eq_false (by omega)
  simp [postB, this]
theorem postB_id1 {id : Int} {L : List LegD} (h : 99 < id) : postB id L = false := by
  have : decide (id ≤ 99) = false := decide_eq_false (by omega)
  simp [postB, this]
theorem postB_l0 {id : Int} {L : List LegD} (h : L.length < 1) : postB id L = false := by
  have : decide (1 ≤ L.length) = false := decide_eq_false (by omega)
  simp [postB, this]
theorem postB_l1 {id : Int} {L : List LegD} (h : 4 < L.length) : postB id L = false := by
  have : decide (L.length ≤ 4) = false := decide_eq_false (by omega)
  simp [postB, this]
theorem postB_leg {id : Int} {L : List LegD} {k : Nat} {l : LegD} (hl : L[k]? = some l) (hb : legB l = false) : postB id L = false := by
  simp [postB, all_false hl hb]
theorem postB_yes {id : Int} {L : List LegD} (h0 : 0 ≤ id) (h1 : id ≤ 99) (h2 : 1 ≤ L.length) (h3 : L.length ≤ 4) {k : Nat} (hk : L.length ≤ k) (ha : (L.take k).all legB = true) : postB id L = true := by
  rw [List.take_of_length_le hk] at ha
  simp [postB, h0, h1, h2, h3, ha]

set_option maxRecDepth 100000 in
/-- A posting that came in: its number, and its legs as they lie. -/
theorem open_post {H : Type} {enc : TypeId × Value → H} {W : World} {b0 base : Nat} {v : Value} {d : DataW H} {p : List MemPlace} {held : Bool}
    (hv : Value.okWide Tryd.prog W .any b0 24 v) (h : DataW.Trod enc Tryd.prog W base (fun _ => true) held 24 v d p) :
    ∃ (id : Int) (a : Option Addr) (len cap : Nat) (L : List LegD), v = .agg #[.int .i64 id, .slice a len cap] ∧ ((Lit.int .i64 id).wf = true ∧ LegsAt W a len cap L) := by
  obtain ⟨c0, c1, y0, y1, m, rfl, _, _, hy0, hy1⟩ := open_agg2 Tryd.underlying24 (by kernel_rfl) Tryd.cellsPostL hv h
  obtain ⟨id, e0, _, wid⟩ := DataW.trod_int Tryd.underlying3 hy0
  simp at e0
  subst e0
  rcases Deep.open_slice Tryd.underlying22 hy1 with ⟨hcs, _⟩ | ⟨a, len, cap, mm, n, D, Pl, hcs, hb, hl, hm, hmm, _, hx⟩
  · simp at hcs
    subst hcs
    exact ⟨id, none, 0, 0, [], rfl, wid, ⟨rfl, Nat.le_refl _, Nat.zero_le _, by simp, fun _ => rfl, (fun x e => by cases e), (fun x e => by cases e)⟩⟩
  · simp at hcs
    subst hcs
    simp at hmm
    rw [Tryd.cellsLegL] at hx
    have each : ∀ i, i < mm → ∃ l : LegD, LegW l ∧ W.cell? (a.add (i * 3)) = some (.string l.1) ∧ W.cell? (a.add (i * 3 + 1)) = some (.int .i64 l.2.1) ∧ W.cell? (a.add (i * 3 + 2)) = some (.int .i64 l.2.2) := by
      intro i hi
      obtain ⟨cs', g1, g2⟩ := hx i hi
      obtain ⟨_, hlen, hcell⟩ := World.cells?_some g1
      obtain ⟨z0, z1, z2, n', _, _, t0, t1, t2⟩ := Deep.trod_struct3 Tryd.underlying125 g2
      match cs', hlen with
      | [u0, u1, u2], _ =>
        have k0 := hcell 0 (by omega)
        have k1 := hcell 1 (by omega)
        have k2 := hcell 2 (by omega)
        rw [Deep.add_add] at k0 k1 k2
        obtain ⟨s, q0, _, ws⟩ := DataW.trod_string Tryd.underlying9 t0
        obtain ⟨c, q1, _, wc⟩ := DataW.trod_int Tryd.underlying3 t1
        obtain ⟨nn, q2, _, wn⟩ := DataW.trod_int Tryd.underlying3 t2
        have r3 : Tryd.prog.cellsOf 9 = 1 := by kernel_rfl
        have r4 : Tryd.prog.cellsOf 3 = 1 := by kernel_rfl
        simp [r3, r4] at q0 q1 q2
        subst q0 q1 q2
        exact ⟨(s, c, nn), ⟨ws, wc, wn⟩, by simpa using k0, by simpa using k1, by simpa using k2⟩
    obtain ⟨f, hf⟩ := Deep.choose_lt each
    have spot : 0 < len → a.spot = none := fun hp => by
      have := (hf 0 (by omega)).2.1
      simpa [Addr.add] using World.cell?_spot this
    have plain : 0 < len → ∀ j, a.add j = ⟨a.block, a.off + j, none⟩ := fun hp j => by
      have := spot hp
      obtain ⟨b, o, sp⟩ := a
      simp only at this
      subst this
      exact add_plain _ _ _
    refine ⟨id, some a, len, cap, (List.range len).map f, rfl, wid, ⟨by simp, hl, hm, ?_, (fun e => by cases e), ?_, ?_⟩⟩
    · intro l hl'
      obtain ⟨i, hi, rfl⟩ := List.mem_map.1 hl'
      exact (hf i (by have := List.mem_range.1 hi; omega)).1
    · rintro x e hp
      cases e
      refine ⟨?_, spot hp⟩
      obtain ⟨cs', g1, _⟩ := hx 0 (by omega)
      have := World.cells?_block g1 (by omega)
      simpa [Addr.add] using this
    · rintro x e i hi
      cases e
      simp at hi
      obtain ⟨_, g0, g1, g2⟩ := hf i (by omega)
      rw [plain (by omega)] at g0 g1 g2
      simp only [List.getElem_map, List.getElem_range]
      exact ⟨g0, by simpa [Nat.add_assoc] using g1, by simpa [Nat.add_assoc] using g2⟩

end Go.Proofs.YtfblpbihpmhgjaaDoor
