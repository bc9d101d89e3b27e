/-
  How a list of postings lies in memory; what that keeps; and how one that came in is opened.
-/
import Derived.Test.YtfblpbihpmhgjaaDoorBp03
import Derived.Deep.SlicePairs
import Derived.OpenShut
namespace Go.Proofs.YtfblpbihpmhgjaaDoor
open Go.RowKit Go.Joins Go.ChangeShapes Go.WideShapes

/-- A posting: its number and its legs. -/
abbrev PostD := Int × List LegD

/-- The slice at a, of that length, holds the postings B. -/
structure PostsAt (w : World) (a : Option Addr) (len cap : Nat) (B : List PostD) : Prop where
  length : B.length = len
  room : len ≤ cap
  big : cap ≤ maxLen
  nil : a = none → len = 0
  lies : ∀ x, a = some x → 0 < len → x.block < w.heap.size ∧ x.spot = none
  posts : ∀ x, a = some x → ∀ i (h : i < B.length), (Lit.int .i64 B[i].1).wf = true ∧ ∃ s n c, w.cell? ⟨x.block, x.off + i * 2, none⟩ = some (.int .i64 B[i].1) ∧ w.cell? ⟨x.block, x.off + i * 2 + 1, none⟩ = some (.slice s n c) ∧ LegsAt w s n c B[i].2

theorem PostsAt.keep {w w' : World} {a : Option Addr} {len cap : Nat} {B : List PostD} (h : PostsAt w a len cap B) (hb : Below w.heap.size w w') : PostsAt w' a len cap B where
  length := h.length
  room := h.room
  big := h.big
  nil := h.nil
  lies := fun x e hp => ⟨Nat.lt_of_lt_of_le (h.lies x e hp).1 hb.size, (h.lies x e hp).2⟩
  posts := fun x e i hi => by
    have hx := (h.lies x e (by have := h.length; omega)).1
    obtain ⟨hw, s, n, c, c0, c1, hL⟩ := h.posts x e i hi
    exact ⟨hw, s, n, c, (hb.cell (p := ⟨x.block, _, none⟩) hx).trans c0, (hb.cell (p := ⟨x.block, _, none⟩) hx).trans c1, hL.keep hb⟩

theorem PostsAt.form {w : World} {a : Option Addr} {len cap : Nat} {B : List PostD} (h : PostsAt w a len cap B) (hl : 1 ≤ len) : ∃ b off, a = some ⟨b, off, none⟩ ∧ b < w.heap.size := by
  cases a with
  | none => have := h.nil rfl; omega
  | some x =>
    obtain ⟨b, off, spot⟩ := x
    obtain ⟨h1, h2⟩ := h.lies _ rfl (by omega)
    simp only at h1 h2
    subst h2
    exact ⟨b, off, rfl, h1⟩

/-- Posting number k. -/
theorem PostsAt.post {w wr : World} {b off len cap : Nat} {B : List PostD} (h : PostsAt w (some ⟨b, off, none⟩) len cap B) (hb : Below w.heap.size w wr) (k : Nat) (hk : k < len) :
    ∃ id L s n c, B[k]? = some (id, L) ∧ (Lit.int .i64 id).wf = true ∧ wr.cell? ⟨b, off + k * 2, none⟩ = some (.int .i64 id) ∧ wr.cell? ⟨b, off + k * 2 + 1, none⟩ = some (.slice s n c) ∧ LegsAt wr s n c L := by
  have hk' : k < B.length := by rw [h.length]; exact hk
  obtain ⟨hw, s, n, c, c0, c1, hL⟩ := (h.keep hb).posts _ rfl k hk'
  exact ⟨B[k].1, B[k].2, s, n, c, List.getElem?_eq_getElem hk', hw, c0, c1, hL⟩

set_option maxRecDepth 100000 in
/-- Legs that came in. -/
theorem trod_legs {H : Type} {enc : TypeId × Value → H} {W : World} {base n0 : Nat} {v : Value} {x : DataW H × List MemPlace} {held : Bool}
    (h : DataW.trod enc Tryd.prog W base (fun _ => true) held n0 22 [v] = some x) :
    ∃ (a : Option Addr) (len cap : Nat) (L : List LegD), v = .slice a len cap ∧ LegsAt W a len cap L := by
  rcases Deep.open_slice Tryd.underlying22 h with ⟨hcs, _⟩ | ⟨a, len, cap, mm, n, D, Pl, hcs, hb, hl, hm, hmm, _, hx⟩
  · simp at hcs
    subst hcs
    exact ⟨none, 0, 0, [], rfl, ⟨rfl, Nat.le_refl _, Nat.zero_le _, by simp, fun _ => rfl, (fun x e => by cases e), (fun x e => by cases e)⟩⟩
  · simp at hcs
    subst hcs
    simp at hmm
    rw [Tryd.cellsLegL] at hx
    have each : ∀ i, i < mm → ∃ l : LegD, LegW l ∧ W.cell? (a.add (i * 3)) = some (.string l.1) ∧ W.cell? (a.add (i * 3 + 1)) = some (.int .i64 l.2.1) ∧ W.cell? (a.add (i * 3 + 2)) = some (.int .i64 l.2.2) := by
      intro i hi
      obtain ⟨cs', g1, g2⟩ := hx i hi
      obtain ⟨_, hlen, hcell⟩ := World.cells?_some g1
      obtain ⟨z0, z1, z2, n', _, _, t0, t1, t2⟩ := Deep.trod_struct3 Tryd.underlying125 g2
      match cs', hlen with
      | [u0, u1, u2], _ =>
        have k0 := hcell 0 (by omega)
        have k1 := hcell 1 (by omega)
        have k2 := hcell 2 (by omega)
        rw [Deep.add_add] at k0 k1 k2
        obtain ⟨s, q0, _, ws⟩ := DataW.trod_string Tryd.underlying9 t0
        obtain ⟨c, q1, _, wc⟩ := DataW.trod_int Tryd.underlying3 t1
        obtain ⟨nn, q2, _, wn⟩ := DataW.trod_int Tryd.underlying3 t2
        have r3 : Tryd.prog.cellsOf 9 = 1 := by kernel_rfl
        have r4 : Tryd.prog.cellsOf 3 = 1 := by kernel_rfl
        simp [r3, r4] at q0 q1 q2
        subst q0 q1 q2
        exact ⟨(s, c, nn), ⟨ws, wc, wn⟩, by simpa using k0, by simpa using k1, by simpa using k2⟩
    obtain ⟨f, hf⟩ := Deep.choose_lt each
    have spot : 0 < len → a.spot = none := fun hp => by
      have := (hf 0 (by omega)).2.1
      simpa [Addr.add] using World.cell?_spot this
    have plain : 0 < len → ∀ j, a.add j = ⟨a.block, a.off + j, none⟩ := fun hp j => by
      have := spot hp
      obtain ⟨b, o, sp⟩ := a
      simp only at this
      subst this
      exact add_plain _ _ _
    refine ⟨some a, len, cap, (List.range len).map f, rfl, ⟨by simp, hl, hm, ?_, (fun e => by cases e), ?_, ?_⟩⟩
    · intro l hl'
      obtain ⟨i, hi, rfl⟩ := List.mem_map.1 hl'
      exact (hf i (by have := List.mem_range.1 hi; omega)).1
    · rintro x e hp
      cases e
      refine ⟨?_, spot hp⟩
      obtain ⟨cs', g1, _⟩ := hx 0 (by omega)
      have := World.cells?_block g1 (by omega)
      simpa [Addr.add] using this
    · rintro x e i hi
      cases e
      simp at hi
      obtain ⟨_, g0, g1, g2⟩ := hf i (by omega)
      rw [plain (by omega)] at g0 g1 g2
      simp only [List.getElem_map, List.getElem_range]
      exact ⟨g0, by simpa [Nat.add_assoc] using g1, by simpa [Nat.add_assoc] using g2⟩

set_option maxRecDepth 100000 in
/-- A list of postings that came in. -/
theorem open_posts {H : Type} {enc : TypeId × Value → H} {W : World} {b0 base : Nat} {v : Value} {d : DataW H} {p : List MemPlace} {held : Bool}
    (hv : Value.okWide Tryd.prog W .any b0 55 v) (h : DataW.Trod enc Tryd.prog W base (fun _ => true) held 55 v d p) :
    ∃ (a : Option Addr) (len cap : Nat) (B : List PostD), v = .slice a len cap ∧ PostsAt W a len cap B := by
  obtain ⟨a1, len1, cap1, rfl⟩ := okWide_slice Tryd.underlying55 hv
  obtain ⟨fuel, hf⟩ := h
  have r4 : Tryd.prog.cellsOf 3 = 1 := by kernel_rfl
  have r5 : Tryd.prog.cellsOf 22 = 1 := by kernel_rfl
  rcases Deep.open_slice_pairs Tryd.underlying55 Tryd.underlying24 Tryd.cellsPostL rfl rfl r4 r5 hf with ⟨hcs, _⟩ | ⟨a, len, cap, mm, n, V0, V1, D0, D1, P0, P1, hcs, hb, hl, hm, hmm, _, hx⟩
  · simp [Value.cells] at hcs
    obtain ⟨rfl, rfl, rfl⟩ := hcs
    exact ⟨none, 0, 0, [], rfl, ⟨rfl, Nat.le_refl _, Nat.zero_le _, fun _ => rfl, (fun x e => by cases e), (fun x e => by cases e)⟩⟩
  · simp [Value.cells] at hcs
    obtain ⟨rfl, rfl, rfl⟩ := hcs
    simp at hmm
    have each : ∀ i, i < mm → ∃ l : PostD, (Lit.int .i64 l.1).wf = true ∧ ∃ s n c, W.cell? (a.add (i * 2)) = some (.int .i64 l.1) ∧ W.cell? (a.add (i * 2 + 1)) = some (.slice s n c) ∧ LegsAt W s n c l.2 := by
      intro i hi
      obtain ⟨c0, c1, t0, t1⟩ := hx i hi
      obtain ⟨id, e0, _, wid⟩ := DataW.trod_int Tryd.underlying3 t0
      obtain ⟨s, n, c, L, e1, hL⟩ := trod_legs t1
      simp at e0
      rw [e0] at c0
      rw [e1] at c1
      exact ⟨(id, L), wid, s, n, c, c0, c1, hL⟩
    obtain ⟨f, hf'⟩ := Deep.choose_lt each
    have spot : 0 < len1 → a.spot = none := fun hp => by
      obtain ⟨_, s, n, c, c0, _⟩ := hf' 0 (by omega)
      simpa [Addr.add] using World.cell?_spot c0
    have plain : 0 < len1 → ∀ j, a.add j = ⟨a.block, a.off + j, none⟩ := fun hp j => by
      have := spot hp
      obtain ⟨b, o, sp⟩ := a
      simp only at this
      subst this
      exact add_plain _ _ _
    refine ⟨some a, len1, cap1, (List.range len1).map f, rfl, ⟨by simp, hl, hm, (fun e => by cases e), ?_, ?_⟩⟩
    · rintro x e hp
      cases e
      refine ⟨?_, spot hp⟩
      obtain ⟨_, s, n, c, c0, _⟩ := hf' 0 (by omega)
      have := World.block_lt_of_cell? _ _ c0
      simpa [Addr.add] using this
    · rintro x e i hi
      cases e
      simp at hi
      obtain ⟨g, s, n, c, g0, g1, g2⟩ := hf' i (by omega)
      rw [plain (by omega)] at g0 g1
      simp only [List.getElem_map, List.getElem_range]
      exact ⟨g, s, n, c, g0, by simpa [Nat.add_assoc] using g1, g2⟩
end Go.Proofs.YtfblpbihpmhgjaaDoor
