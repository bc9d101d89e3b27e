/-
  How a run that came in is opened.
  How a list of numbers lies in memory, what that keeps, and how one that came in is opened.
  How a list of runs and a list of levels lie in memory; what that keeps; and how those that came in are opened.
  Laws for a region that draws its order, taken operation by operation; no statement of the program stands here.
  Where a copy of a tree lies (its blocks, by kinds), and the laws' marks on it: only those blocks are written; by walks of their Go text.
-/
import Derived.Test.YtlmgojlffgkciaaGreatFb01
import Derived.Deep.SlicePairs
import Derived.OpenShut
import Derived.Deep.RegionHeld3
import Derived.WalkKit
import Derived.Deep.DeepCutAuto
namespace Go.Proofs.YtlmgojlffgkciaaGreat
open Go.RowKit Go.Joins Go.ChangeShapes Go.WideShapes

theorem Tryz.cellsRunL : Tryz.prog.cellsOf 144 = 2 := by kernel_rfl
set_option maxRecDepth 100000 in
/-- A run that came in. -/
theorem open_run {H : Type} {enc : TypeId × Value → H} {W : World} {b0 base : Nat} {v : Value} {d : DataW H} {p : List MemPlace} {held : Bool}
    (hv : Value.okWide Tryz.prog W .any b0 144 v) (h : DataW.Trod enc Tryz.prog W base (fun _ => true) held 144 v d p) :
    ∃ (a : Option Addr) (len cap : Nat) (L : List EntD) (m : Int), v = .agg #[.slice a len cap, .int .i64 m] ∧ ((Lit.int .i64 m).wf = true ∧ EntsAt W a len cap L) := by
  obtain ⟨c0, c1, y0, y1, m, rfl, _, _, hy0, hy1⟩ := open_agg2 Tryz.underlying144 (by kernel_rfl) Tryz.cellsRunL hv h
  obtain ⟨m, e0, _, wid⟩ := DataW.trod_int Tryz.underlying3 hy1
  simp at e0
  subst e0
  obtain ⟨a, len, cap, L, rfl, hL⟩ := open_ents hy0
  exact ⟨a, len, cap, L, m, rfl, wid, hL⟩

end Go.Proofs.YtlmgojlffgkciaaGreat

namespace Go.Proofs.YtlmgojlffgkciaaGreat
open Go.RowKit Go.Joins Go.ChangeShapes Go.WideShapes

theorem Tryz.infoInt : (Tryz.prog.info? 3).map (fun i => (i.zero, i.size, i.bytes)) = some (some (.int .i64 0), 1, 8) := by kernel_rfl
/-- All cells of blocks from lo on are as they were. -/
def Same (lo : Nat) (w w' : World) : Prop := w.heap.size ≤ w'.heap.size ∧ ∀ b o, lo ≤ b → b < w.heap.size → w'.cell? ⟨b, o, none⟩ = w.cell? ⟨b, o, none⟩
theorem Same.of_below {lo : Nat} {w w' : World} (hb : Below w.heap.size w w') : Same lo w w' := ⟨hb.size, fun b o _ h => hb.cell (p := ⟨b, o, none⟩) h⟩
theorem Same.of_set {lo : Nat} {w : World} (p : Addr) (u : Value) (h : p.block < lo) : Same lo w (w.setCell p u) :=
  ⟨by simp [World.setCell], fun b o hb _ => World.cell?_of_block (by rw [Below.heap_setCell _ _ _ _ (by simp only; omega)])⟩
theorem Same.trans {lo : Nat} {w w' w'' : World} (h : Same lo w w') (h' : Same lo w' w'') : Same lo w w'' :=
  ⟨Nat.le_trans h.1 h'.1, fun b o hb hl => (h'.2 b o hb (Nat.lt_of_lt_of_le hl h.1)).trans (h.2 b o hb hl)⟩

/-- The slice at a holds the numbers S. -/
structure IntsIn (lo : Nat) (w : World) (a : Option Addr) (len cap : Nat) (S : List Int) : Prop where
  length : S.length = len
  room : len ≤ cap
  big : cap ≤ maxLen
  wfs : ∀ q ∈ S, (Lit.int .i64 q).wf = true
  nil : a = none → len = 0
  lies : ∀ x, a = some x → 0 < len → x.block < w.heap.size ∧ x.spot = none ∧ lo ≤ x.block
  cells : ∀ x, a = some x → ∀ i (h : i < S.length), w.cell? ⟨x.block, x.off + i, none⟩ = some (.int .i64 S[i])
theorem IntsIn.same {lo : Nat} {w w' : World} {a : Option Addr} {len cap : Nat} {S : List Int} (h : IntsIn lo w a len cap S) (hs : Same lo w w') : IntsIn lo w' a len cap S where
  length := h.length
  room := h.room
  big := h.big
  wfs := h.wfs
  nil := h.nil
  lies := fun x e hp => ⟨Nat.lt_of_lt_of_le (h.lies x e hp).1 hs.1, (h.lies x e hp).2⟩
  cells := fun x e i hi => by
    obtain ⟨hx, _, hlo⟩ := h.lies x e (by have := h.length; omega)
    exact (hs.2 _ _ hlo hx).trans (h.cells x e i hi)
theorem IntsIn.keep {lo : Nat} {w w' : World} {a : Option Addr} {len cap : Nat} {S : List Int} (h : IntsIn lo w a len cap S) (hb : Below w.heap.size w w') : IntsIn lo w' a len cap S := h.same (Same.of_below hb)
theorem IntsIn.lower {lo lo' : Nat} {w : World} {a : Option Addr} {len cap : Nat} {S : List Int} (h : IntsIn lo w a len cap S) (hl : lo' ≤ lo) : IntsIn lo' w a len cap S :=
  ⟨h.length, h.room, h.big, h.wfs, h.nil, fun x e hp => ⟨(h.lies x e hp).1, (h.lies x e hp).2.1, Nat.le_trans hl (h.lies x e hp).2.2⟩, h.cells⟩
theorem IntsIn.form {lo : Nat} {w : World} {a : Option Addr} {len cap : Nat} {S : List Int} (h : IntsIn lo w a len cap S) (hl : 1 ≤ len) : ∃ b off, a = some ⟨b, off, none⟩ ∧ b < w.heap.size := by
  cases a with
  | none => have := h.nil rfl; omega
  | some x =>
    obtain ⟨b, off, spot⟩ := x
    obtain ⟨h1, h2, _⟩ := h.lies _ rfl (by omega)
    simp only at h1 h2
    subst h2
    exact ⟨b, off, rfl, h1⟩
theorem IntsIn.num {lo : Nat} {w wr : World} {b off len cap : Nat} {S : List Int} (h : IntsIn lo w (some ⟨b, off, none⟩) len cap S) (hb : Below w.heap.size w wr) (k : Nat) (hk : k < len) :
    ∃ q, S[k]? = some q ∧ (Lit.int .i64 q).wf = true ∧ wr.cell? ⟨b, off + k, none⟩ = some (.int .i64 q) := by
  have hk' : k < S.length := by rw [h.length]; exact hk
  exact ⟨S[k], List.getElem?_eq_getElem hk', h.wfs _ (List.getElem_mem hk'), (h.keep hb).cells _ rfl k hk'⟩

theorem plain_at {a : Addr} (h : a.spot = none) (j : Nat) : a.add j = ⟨a.block, a.off + j, none⟩ := by
  obtain ⟨b, o, sp⟩ := a
  simp only at h
  subst h
  exact add_plain _ _ _

set_option maxRecDepth 100000 in
/-- Numbers that came in. -/
theorem open_ints {H : Type} {enc : TypeId × Value → H} {W : World} {base n0 : Nat} {v : Value} {x : DataW H × List MemPlace} {held : Bool}
    (hf : DataW.trod enc Tryz.prog W base (fun _ => true) held n0 24 [v] = some x) :
    ∃ (a : Option Addr) (len cap : Nat) (S : List Int), v = .slice a len cap ∧ IntsIn 0 W a len cap S := by
  have r5 : Tryz.prog.cellsOf 3 = 1 := by kernel_rfl
  rcases Deep.open_slice Tryz.underlying24 hf with ⟨hcs, _⟩ | ⟨a, len, cap, mm, n, D, Pl, hcs, hb, hl, hm, hmm, _, hx⟩
  · simp at hcs
    subst hcs
    exact ⟨none, 0, 0, [], rfl, ⟨rfl, Nat.le_refl _, Nat.zero_le _, by simp, fun _ => rfl, (fun x e => by cases e), (fun x e => by cases e)⟩⟩
  · simp at hcs
    subst hcs
    simp at hmm
    rw [r5] at hx
    have each : ∀ i, i < mm → ∃ q : Int, (Lit.int .i64 q).wf = true ∧ W.cell? (a.add i) = some (.int .i64 q) := by
      intro i hi
      obtain ⟨cs', g1, g2⟩ := hx i hi
      obtain ⟨_, hlen, hcell⟩ := World.cells?_some g1
      match cs', hlen with
      | [u0], _ =>
        have k0 := hcell 0 (by omega)
        rw [Deep.add_add] at k0
        obtain ⟨q, e0, _, wq⟩ := DataW.trod_int Tryz.underlying3 g2
        simp at e0
        subst e0
        exact ⟨q, wq, by simpa using k0⟩
    obtain ⟨f, hf'⟩ := Deep.choose_lt each
    have spot : 0 < len → a.spot = none := fun hp => by
      obtain ⟨_, c0⟩ := hf' 0 (by omega)
      simpa [Addr.add] using World.cell?_spot c0
    refine ⟨some a, len, cap, (List.range len).map f, rfl, ⟨by simp, hl, hm, ?_, (fun e => by cases e), ?_, ?_⟩⟩
    · intro q hq
      obtain ⟨i, hi, rfl⟩ := List.mem_map.1 hq
      exact (hf' i (by have := List.mem_range.1 hi; omega)).1
    · rintro x e hp
      cases e
      refine ⟨?_, spot hp, Nat.zero_le _⟩
      obtain ⟨_, c0⟩ := hf' 0 (by omega)
      have := World.block_lt_of_cell? _ _ c0
      simpa [Addr.add] using this
    · rintro x e i hi
      cases e
      simp at hi
      obtain ⟨_, g0⟩ := hf' i (by omega)
      rw [plain_at (spot (by omega))] at g0
      simp only [List.getElem_map, List.getElem_range]
      exact g0
end Go.Proofs.YtlmgojlffgkciaaGreat

namespace Go.Proofs.YtlmgojlffgkciaaGreat
open Go.RowKit Go.Joins Go.ChangeShapes Go.WideShapes

/-- A run: its entries and its marks. -/
abbrev RunD := List EntD × Int

/-- The slice at a holds the entries L, all in blocks from lo on. -/
def EntsIn (lo : Nat) (w : World) (a : Option Addr) (len cap : Nat) (L : List EntD) : Prop := EntsAt w a len cap L ∧ ∀ x, a = some x → 0 < len → lo ≤ x.block
theorem EntsIn.same {lo : Nat} {w w' : World} {a : Option Addr} {len cap : Nat} {L : List EntD} (h : EntsIn lo w a len cap L) (hs : Same lo w w') : EntsIn lo w' a len cap L :=
  ⟨h.1.moved hs.1 (fun x e hp _ => hs.2 _ _ (h.2 x e hp) (h.1.lies x e hp).1), h.2⟩
theorem EntsIn.mono {lo lo' : Nat} {w : World} {a : Option Addr} {len cap : Nat} {L : List EntD} (h : EntsIn lo w a len cap L) (hl : lo' ≤ lo) : EntsIn lo' w a len cap L := ⟨h.1, fun x e hp => Nat.le_trans hl (h.2 x e hp)⟩

/-- The slice at a holds the runs B, all in blocks from lo on. -/
structure RunsIn (lo : Nat) (w : World) (a : Option Addr) (len cap : Nat) (B : List RunD) : Prop where
  length : B.length = len
  room : len ≤ cap
  big : cap ≤ maxLen
  nil : a = none → len = 0
  lies : ∀ x, a = some x → 0 < len → x.block < w.heap.size ∧ x.spot = none ∧ lo ≤ x.block
  runs : ∀ x, a = some x → ∀ i (h : i < B.length), (Lit.int .i64 B[i].2).wf = true ∧ ∃ s n c, w.cell? ⟨x.block, x.off + i * 2, none⟩ = some (.slice s n c) ∧ w.cell? ⟨x.block, x.off + i * 2 + 1, none⟩ = some (.int .i64 B[i].2) ∧ EntsIn lo w s n c B[i].1
theorem RunsIn.same {lo : Nat} {w w' : World} {a : Option Addr} {len cap : Nat} {B : List RunD} (h : RunsIn lo w a len cap B) (hs : Same lo w w') : RunsIn lo w' a len cap B where
  length := h.length
  room := h.room
  big := h.big
  nil := h.nil
  lies := fun x e hp => ⟨Nat.lt_of_lt_of_le (h.lies x e hp).1 hs.1, (h.lies x e hp).2⟩
  runs := fun x e i hi => by
    obtain ⟨hx, _, hlo⟩ := h.lies x e (by have := h.length; omega)
    obtain ⟨hw, s, n, c, c0, c1, hL⟩ := h.runs x e i hi
    exact ⟨hw, s, n, c, (hs.2 _ _ hlo hx).trans c0, (hs.2 _ _ hlo hx).trans c1, hL.same hs⟩
theorem RunsIn.keep {lo : Nat} {w w' : World} {a : Option Addr} {len cap : Nat} {B : List RunD} (h : RunsIn lo w a len cap B) (hb : Below w.heap.size w w') : RunsIn lo w' a len cap B := h.same (Same.of_below hb)
theorem RunsIn.mono {lo lo' : Nat} {w : World} {a : Option Addr} {len cap : Nat} {B : List RunD} (h : RunsIn lo w a len cap B) (hl : lo' ≤ lo) : RunsIn lo' w a len cap B :=
  ⟨h.length, h.room, h.big, h.nil, fun x e hp => ⟨(h.lies x e hp).1, (h.lies x e hp).2.1, Nat.le_trans hl (h.lies x e hp).2.2⟩, fun x e i hi => by obtain ⟨hw, s, n, c, c0, c1, hL⟩ := h.runs x e i hi; exact ⟨hw, s, n, c, c0, c1, hL.mono hl⟩⟩
theorem RunsIn.form {lo : Nat} {w : World} {a : Option Addr} {len cap : Nat} {B : List RunD} (h : RunsIn lo w a len cap B) (hl : 1 ≤ len) : ∃ b off, a = some ⟨b, off, none⟩ ∧ b < w.heap.size := by
  cases a with
  | none => have := h.nil rfl; omega
  | some x =>
    obtain ⟨b, off, spot⟩ := x
    obtain ⟨h1, h2, _⟩ := h.lies _ rfl (by omega)
    simp only at h1 h2
    subst h2
    exact ⟨b, off, rfl, h1⟩
/-- Run number k. -/
theorem RunsIn.run {lo : Nat} {w wr : World} {b off len cap : Nat} {B : List RunD} (h : RunsIn lo w (some ⟨b, off, none⟩) len cap B) (hb : Below w.heap.size w wr) (k : Nat) (hk : k < len) :
    ∃ L m s n c, B[k]? = some (L, m) ∧ (Lit.int .i64 m).wf = true ∧ wr.cell? ⟨b, off + k * 2, none⟩ = some (.slice s n c) ∧ wr.cell? ⟨b, off + k * 2 + 1, none⟩ = some (.int .i64 m) ∧ EntsIn lo wr s n c L := by
  have hk' : k < B.length := by rw [h.length]; exact hk
  obtain ⟨hw, s, n, c, c0, c1, hL⟩ := (h.keep hb).runs _ rfl k hk'
  exact ⟨B[k].1, B[k].2, s, n, c, List.getElem?_eq_getElem hk', hw, c0, c1, hL⟩
theorem RunsIn.wfs {lo : Nat} {w : World} {a : Option Addr} {len cap : Nat} {B : List RunD} (h : RunsIn lo w a len cap B) : ∀ p ∈ B, (Lit.int .i64 p.2).wf = true := by
  intro p hp
  obtain ⟨j, hj, rfl⟩ := List.getElem_of_mem hp
  obtain ⟨b, off, rfl, _⟩ := h.form (by have := h.length; omega)
  exact (h.runs _ rfl j hj).1
theorem runsIn_nil (lo : Nat) (w : World) : RunsIn lo w none 0 0 [] := ⟨rfl, Nat.le_refl _, Nat.zero_le _, fun _ => rfl, (fun x e => by cases e), (fun x e => by cases e)⟩

/-- The slice at a holds the levels V, all in blocks from lo on. -/
structure LevelsIn (lo : Nat) (w : World) (a : Option Addr) (len cap : Nat) (V : List (List RunD)) : Prop where
  length : V.length = len
  room : len ≤ cap
  big : cap ≤ maxLen
  nil : a = none → len = 0
  lies : ∀ x, a = some x → 0 < len → x.block < w.heap.size ∧ x.spot = none ∧ lo ≤ x.block
  levels : ∀ x, a = some x → ∀ i (h : i < V.length), ∃ s n c, w.cell? ⟨x.block, x.off + i, none⟩ = some (.slice s n c) ∧ RunsIn lo w s n c V[i]
theorem LevelsIn.same {lo : Nat} {w w' : World} {a : Option Addr} {len cap : Nat} {V : List (List RunD)} (h : LevelsIn lo w a len cap V) (hs : Same lo w w') : LevelsIn lo w' a len cap V where
  length := h.length
  room := h.room
  big := h.big
  nil := h.nil
  lies := fun x e hp => ⟨Nat.lt_of_lt_of_le (h.lies x e hp).1 hs.1, (h.lies x e hp).2⟩
  levels := fun x e i hi => by
    obtain ⟨hx, _, hlo⟩ := h.lies x e (by have := h.length; omega)
    obtain ⟨s, n, c, c0, hL⟩ := h.levels x e i hi
    exact ⟨s, n, c, (hs.2 _ _ hlo hx).trans c0, hL.same hs⟩
theorem LevelsIn.keep {lo : Nat} {w w' : World} {a : Option Addr} {len cap : Nat} {V : List (List RunD)} (h : LevelsIn lo w a len cap V) (hb : Below w.heap.size w w') : LevelsIn lo w' a len cap V := h.same (Same.of_below hb)
theorem LevelsIn.mono {lo lo' : Nat} {w : World} {a : Option Addr} {len cap : Nat} {V : List (List RunD)} (h : LevelsIn lo w a len cap V) (hl : lo' ≤ lo) : LevelsIn lo' w a len cap V :=
  ⟨h.length, h.room, h.big, h.nil, fun x e hp => ⟨(h.lies x e hp).1, (h.lies x e hp).2.1, Nat.le_trans hl (h.lies x e hp).2.2⟩, fun x e i hi => by obtain ⟨s, n, c, c0, hL⟩ := h.levels x e i hi; exact ⟨s, n, c, c0, hL.mono hl⟩⟩
theorem LevelsIn.form {lo : Nat} {w : World} {a : Option Addr} {len cap : Nat} {V : List (List RunD)} (h : LevelsIn lo w a len cap V) (hl : 1 ≤ len) : ∃ b off, a = some ⟨b, off, none⟩ ∧ b < w.heap.size := by
  cases a with
  | none => have := h.nil rfl; omega
  | some x =>
    obtain ⟨b, off, spot⟩ := x
    obtain ⟨h1, h2, _⟩ := h.lies _ rfl (by omega)
    simp only at h1 h2
    subst h2
    exact ⟨b, off, rfl, h1⟩
/-- Level number k. -/
theorem LevelsIn.level {lo : Nat} {w wr : World} {b off len cap : Nat} {V : List (List RunD)} (h : LevelsIn lo w (some ⟨b, off, none⟩) len cap V) (hb : Below w.heap.size w wr) (k : Nat) (hk : k < len) :
    ∃ B s n c, V[k]? = some B ∧ wr.cell? ⟨b, off + k, none⟩ = some (.slice s n c) ∧ RunsIn lo wr s n c B := by
  have hk' : k < V.length := by rw [h.length]; exact hk
  obtain ⟨s, n, c, c0, hL⟩ := (h.keep hb).levels _ rfl k hk'
  exact ⟨V[k], s, n, c, List.getElem?_eq_getElem hk', c0, hL⟩

set_option maxRecDepth 100000 in
/-- Runs that came in. -/
theorem open_runs {H : Type} {enc : TypeId × Value → H} {W : World} {base n0 : Nat} {v : Value} {x : DataW H × List MemPlace} {held : Bool}
    (hf : DataW.trod enc Tryz.prog W base (fun _ => true) held n0 89 [v] = some x) :
    ∃ (a : Option Addr) (len cap : Nat) (B : List RunD), v = .slice a len cap ∧ RunsIn 0 W a len cap B := by
  have r4 : Tryz.prog.cellsOf 3 = 1 := by kernel_rfl
  have r5 : Tryz.prog.cellsOf 22 = 1 := by kernel_rfl
  rcases Deep.open_slice_pairs Tryz.underlying89 Tryz.underlying144 Tryz.cellsRunL rfl rfl r5 r4 hf with ⟨hcs, _⟩ | ⟨a, len, cap, mm, n, V0, V1, D0, D1, P0, P1, hcs, hb, hl, hm, hmm, _, hx⟩
  · simp at hcs
    subst hcs
    exact ⟨none, 0, 0, [], rfl, runsIn_nil _ _⟩
  · simp at hcs
    subst hcs
    simp at hmm
    have each : ∀ i, i < mm → ∃ l : RunD, (Lit.int .i64 l.2).wf = true ∧ ∃ s n c, W.cell? (a.add (i * 2)) = some (.slice s n c) ∧ W.cell? (a.add (i * 2 + 1)) = some (.int .i64 l.2) ∧ EntsIn 0 W s n c l.1 := by
      intro i hi
      obtain ⟨c0, c1, t0, t1⟩ := hx i hi
      obtain ⟨id, e1, _, wid⟩ := DataW.trod_int Tryz.underlying3 t1
      obtain ⟨s, n, c, L, e0, hL⟩ := open_ents t0
      simp at e1
      rw [e0] at c0
      rw [e1] at c1
      exact ⟨(L, id), wid, s, n, c, c0, c1, hL, fun _ _ _ => Nat.zero_le _⟩
    obtain ⟨f, hf'⟩ := Deep.choose_lt each
    have spot : 0 < len → a.spot = none := fun hp => by
      obtain ⟨_, s, n, c, c0, _⟩ := hf' 0 (by omega)
      simpa [Addr.add] using World.cell?_spot c0
    refine ⟨some a, len, cap, (List.range len).map f, rfl, ⟨by simp, hl, hm, (fun e => by cases e), ?_, ?_⟩⟩
    · rintro x e hp
      cases e
      refine ⟨?_, spot hp, Nat.zero_le _⟩
      obtain ⟨_, s, n, c, c0, _⟩ := hf' 0 (by omega)
      have := World.block_lt_of_cell? _ _ c0
      simpa [Addr.add] using this
    · rintro x e i hi
      cases e
      simp at hi
      obtain ⟨g, s, n, c, g0, g1, g2⟩ := hf' i (by omega)
      rw [plain_at (spot (by omega))] at g0 g1
      simp only [List.getElem_map, List.getElem_range]
      exact ⟨g, s, n, c, g0, by simpa [Nat.add_assoc] using g1, g2⟩

set_option maxRecDepth 100000 in
/-- Levels that came in. -/
theorem open_levels {H : Type} {enc : TypeId × Value → H} {W : World} {base n0 : Nat} {v : Value} {x : DataW H × List MemPlace} {held : Bool}
    (hf : DataW.trod enc Tryz.prog W base (fun _ => true) held n0 23 [v] = some x) :
    ∃ (a : Option Addr) (len cap : Nat) (V : List (List RunD)), v = .slice a len cap ∧ LevelsIn 0 W a len cap V := by
  have r5 : Tryz.prog.cellsOf 89 = 1 := by kernel_rfl
  rcases Deep.open_slice Tryz.underlying23 hf with ⟨hcs, _⟩ | ⟨a, len, cap, mm, n, D, Pl, hcs, hb, hl, hm, hmm, _, hx⟩
  · simp at hcs
    subst hcs
    exact ⟨none, 0, 0, [], rfl, ⟨rfl, Nat.le_refl _, Nat.zero_le _, fun _ => rfl, (fun x e => by cases e), (fun x e => by cases e)⟩⟩
  · simp at hcs
    subst hcs
    simp at hmm
    rw [r5] at hx
    have each : ∀ i, i < mm → ∃ B : List RunD, ∃ s n c, W.cell? (a.add i) = some (.slice s n c) ∧ RunsIn 0 W s n c B := by
      intro i hi
      obtain ⟨cs', g1, g2⟩ := hx i hi
      obtain ⟨_, hlen, hcell⟩ := World.cells?_some g1
      match cs', hlen with
      | [u0], _ =>
        have k0 := hcell 0 (by omega)
        rw [Deep.add_add] at k0
        obtain ⟨s, n, c, B, e0, hB⟩ := open_runs g2
        subst e0
        exact ⟨B, s, n, c, by simpa using k0, hB⟩
    obtain ⟨f, hf'⟩ := Deep.choose_lt each
    have spot : 0 < len → a.spot = none := fun hp => by
      obtain ⟨s, n, c, c0, _⟩ := hf' 0 (by omega)
      simpa [Addr.add] using World.cell?_spot c0
    refine ⟨some a, len, cap, (List.range len).map f, rfl, ⟨by simp, hl, hm, (fun e => by cases e), ?_, ?_⟩⟩
    · rintro x e hp
      cases e
      refine ⟨?_, spot hp, Nat.zero_le _⟩
      obtain ⟨s, n, c, c0, _⟩ := hf' 0 (by omega)
      have := World.block_lt_of_cell? _ _ c0
      simpa [Addr.add] using this
    · rintro x e i hi
      cases e
      simp at hi
      obtain ⟨s, n, c, g0, g2⟩ := hf' i (by omega)
      rw [plain_at (spot (by omega))] at g0
      simp only [List.getElem_map, List.getElem_range]
      exact ⟨s, n, c, g0, g2⟩

/-- A tree: its time, its entries in no run, its levels, its times that are kept; as it lies. -/
structure TreeIn (lo : Nat) (w : World) (am : Option Addr) (nm cm : Nat) (av : Option Addr) (nv cv : Nat) (ak : Option Addr) (ns cs : Nat) (M : List EntD) (V : List (List RunD)) (S : List Int) : Prop where
  mem : EntsIn lo w am nm cm M
  levels : LevelsIn lo w av nv cv V
  snaps : IntsIn lo w ak ns cs S
theorem TreeIn.same {lo : Nat} {w w' : World} {am av ak : Option Addr} {nm cm nv cv ns cs : Nat} {M : List EntD} {V : List (List RunD)} {S : List Int} (h : TreeIn lo w am nm cm av nv cv ak ns cs M V S) (hs : Same lo w w') : TreeIn lo w' am nm cm av nv cv ak ns cs M V S := ⟨h.mem.same hs, h.levels.same hs, h.snaps.same hs⟩
theorem TreeIn.keep {lo : Nat} {w w' : World} {am av ak : Option Addr} {nm cm nv cv ns cs : Nat} {M : List EntD} {V : List (List RunD)} {S : List Int} (h : TreeIn lo w am nm cm av nv cv ak ns cs M V S) (hb : Below w.heap.size w w') : TreeIn lo w' am nm cm av nv cv ak ns cs M V S := h.same (Same.of_below hb)

theorem Tryz.cellsTreeL : Tryz.prog.cellsOf 26 = 4 := by kernel_rfl
set_option maxRecDepth 100000 in
/-- A tree that came in. -/
theorem open_tree {H : Type} {enc : TypeId × Value → H} {W : World} {b0 base : Nat} {v : Value} {d : DataW H} {p : List MemPlace} {held : Bool}
    (hv : Value.okWide Tryz.prog W .any b0 26 v) (h : DataW.Trod enc Tryz.prog W base (fun _ => true) held 26 v d p) :
    ∃ (q : Int) (am : Option Addr) (nm cm : Nat) (av : Option Addr) (nv cv : Nat) (ak : Option Addr) (ns cs : Nat) (M : List EntD) (V : List (List RunD)) (S : List Int), v = .agg #[.int .i64 q, .slice am nm cm, .slice av nv cv, .slice ak ns cs] ∧ ((Lit.int .i64 q).wf = true ∧ TreeIn 0 W am nm cm av nv cv ak ns cs M V S) := by
  obtain ⟨c0, c1, c2, c3, y0, y1, y2, y3, m, rfl, _, _, hy0, hy1, hy2, hy3⟩ := open_agg4 Tryz.underlying26 (by kernel_rfl) Tryz.cellsTreeL hv h
  obtain ⟨q, e0, _, wid⟩ := DataW.trod_int Tryz.underlying3 hy0
  simp at e0
  subst e0
  obtain ⟨am, nm, cm, M, rfl, hM⟩ := open_ents hy1
  obtain ⟨av, nv, cv, V, rfl, hV⟩ := open_levels hy2
  obtain ⟨ak, ns, cs, S, rfl, hS⟩ := open_ints hy3
  exact ⟨q, am, nm, cm, av, nv, cv, ak, ns, cs, M, V, S, rfl, wid, ⟨hM, fun _ _ _ => Nat.zero_le _⟩, hV, hS⟩
end Go.Proofs.YtlmgojlffgkciaaGreat

namespace Go.Proofs.YtlmgojlffgkciaaGreat
open Go.RowKit

theorem wpAnyH_takeL {P : Program} {l : List Oper} {Q : Exit → Act → World → Prop} {md : Region.Mode} {S : World → Prop} {i : Nat} {oi : Oper} {v : Value} {fuel : Nat} {listed : Array Bool} {a : Act} {w : World} (hi : l[i]? = some oi)
    (hs : Region.noSelect l.toArray = true) (hf : Region.free md l.toArray listed i = true) (hr : (Region.ready md l.toArray listed).contains i = true)
    (hQ : ∀ c a w, Q (.panic c) (a.put oi.dst v) w → Q (.panic c) a w) (hy : YieldsIf P l.toArray S oi v a) (hS : S w)
    (h : wpAnyH P md l.toArray Q S fuel (listed.setIfInBounds i true) (a.put oi.dst v) w) : wpAnyH P md l.toArray Q S (fuel + 1) listed a w :=
  wpAnyH_take (by simpa using hi) hs hf hr hQ hy hS h
theorem consL {P : Program} {l : List Oper} {Q : Exit → Act → World → Prop} {md : Region.Mode} {S : World → Prop} {fuel : Nat} {listed : Array Bool} {a : Act} {w : World} {i : Nat} {o : Oper} {rs : List Nat} (ho : l[i]? = some o)
    (h : ∀ K' : Act → World → Prop, Shut (∀ a w, S w → (S w → wpAnyH P md l.toArray Q S fuel (listed.setIfInBounds i true) a w) → K' a w) → if Region.wanted o (yielded l.toArray a.tmps) = true then Oper.wp P o a w K' Q else K' (a.put o.dst undef) w)
    (hs : AllReadyH P md l.toArray Q S fuel listed a w rs) : AllReadyH P md l.toArray Q S fuel listed a w (i :: rs) :=
  AllReadyH.cons (by simpa using ho) h hs

end Go.Proofs.YtlmgojlffgkciaaGreat

namespace Go.Proofs.YtlmgojlffgkciaaGreat
open Go.RowKit

attribute [local go_sem] Oper.semAt_some

/-- A block of m entries from lo on, below hi. -/
def EntBl (lo hi : Nat) (w : World) (g m : Nat) : Prop := lo ≤ g ∧ g < hi ∧ BlockOf w g 78 (m * 5)
/-- Runs as a copy holds them: a block of their own, and one for the entries of each. -/
structure RunsBl (lo hi : Nat) (w : World) (g : Nat) (B : List RunD) : Prop where
  at1 : lo ≤ g
  at2 : g < hi
  blk : BlockOf w g 102 (B.length * 2)
  runs : ∀ (i : Nat) (p : RunD), B[i]? = some p → ∃ e, w.cell? ⟨g, i * 2, none⟩ = some (.slice (some ⟨e, 0, none⟩) p.1.length p.1.length) ∧ EntBl lo hi w e p.1.length
/-- Levels as a copy holds them. -/
structure LevsBl (lo hi : Nat) (w : World) (g : Nat) (V : List (List RunD)) : Prop where
  at1 : lo ≤ g
  at2 : g < hi
  blk : BlockOf w g 64 (V.length * 1)
  levs : ∀ (i : Nat) (B : List RunD), V[i]? = some B → ∃ e, w.cell? ⟨g, i, none⟩ = some (.slice (some ⟨e, 0, none⟩) B.length B.length) ∧ RunsBl lo hi w e B

/-- From w to w' only blocks from lo on, below hi, were written; every block kept its kind; rows of lists of runs were not written, of rows of runs only the odd cells. -/
structure MarkT (lo hi : Nat) (w w' : World) : Prop where
  os : w'.os = w.os
  tape : w'.tape = w.tape
  output : w'.output = w.output
  size : w.heap.size ≤ w'.heap.size
  far : ∀ q, q < w.heap.size → (q < lo ∨ hi ≤ q) → w'.heap[q]? = w.heap[q]?
  blk : ∀ g t sz, BlockOf w g t sz → BlockOf w' g t sz
  sl : ∀ g sz o, BlockOf w g 64 sz → w'.cell? ⟨g, o, none⟩ = w.cell? ⟨g, o, none⟩
  ev : ∀ g sz j, BlockOf w g 102 sz → w'.cell? ⟨g, j * 2, none⟩ = w.cell? ⟨g, j * 2, none⟩
theorem MarkT.refl (lo hi : Nat) (w : World) : MarkT lo hi w w := ⟨rfl, rfl, rfl, Nat.le_refl _, fun _ _ _ => rfl, fun _ _ _ h => h, fun _ _ _ _ => rfl, fun _ _ _ _ => rfl⟩
theorem MarkT.trans {lo hi : Nat} {w w' w'' : World} (h : MarkT lo hi w w') (k : MarkT lo hi w' w'') : MarkT lo hi w w'' :=
  ⟨k.os.trans h.os, k.tape.trans h.tape, k.output.trans h.output, Nat.le_trans h.size k.size, fun q hq ho => (k.far q (Nat.lt_of_lt_of_le hq h.size) ho).trans (h.far q hq ho), fun g t sz hg => k.blk g t sz (h.blk g t sz hg), fun g sz o hb => (k.sl g sz o (h.blk _ _ _ hb)).trans (h.sl g sz o hb), fun g sz j hb => (k.ev g sz j (h.blk _ _ _ hb)).trans (h.ev g sz j hb)⟩
theorem MarkT.of_below {lo hi : Nat} {w w' : World} (h : Below w.heap.size w w') : MarkT lo hi w w' :=
  ⟨h.os, h.tape, h.output, h.size, fun q hq _ => h.block q hq, fun _ _ _ hg => hg.below h, fun _ _ _ hb => World.cell?_of_block (h.block _ hb.lt), fun _ _ _ hb => World.cell?_of_block (h.block _ hb.lt)⟩
theorem MarkT.set {lo hi g o T sz : Nat} {w : World} (v : Value) (hB : BlockOf w g T sz) (h1 : lo ≤ g) (h2 : g < hi) (t1 : T ≠ 64) (t2 : T ≠ 102) : MarkT lo hi w (w.setCell ⟨g, o, none⟩ v) :=
  ⟨rfl, rfl, rfl, by simp [World.setCell], fun q _ hq => Below.heap_setCell _ _ _ _ (fun e => by have e' : q = g := e; omega), fun _ _ _ hg => hg.setCell v,
    fun g' sz' o' hb => World.cell?_setCell_other _ _ _ _ (fun e => by have e' : g' = g := by cases e; rfl
                                                                       subst e'; exact t1 (hB.kind hb)),
    fun g' sz' j hb => World.cell?_setCell_other _ _ _ _ (fun e => by have e' : g' = g := by (simp only [Addr.mk.injEq] at e; exact e.1.symm)
                                                                      subst e'; exact t2 (hB.kind hb))⟩
theorem MarkT.setOdd {lo hi g j sz : Nat} {w : World} (v : Value) (hB : BlockOf w g 102 sz) (h1 : lo ≤ g) (h2 : g < hi) : MarkT lo hi w (w.setCell ⟨g, j * 2 + 1, none⟩ v) :=
  ⟨rfl, rfl, rfl, by simp [World.setCell], fun q _ hq => Below.heap_setCell _ _ _ _ (fun e => by have e' : q = g := e; omega), fun _ _ _ hg => hg.setCell v,
    fun g' sz' o' hb => World.cell?_setCell_other _ _ _ _ (fun e => by have e' : g' = g := by (simp only [Addr.mk.injEq] at e; exact e.1.symm)
                                                                       subst e'; exact absurd (hB.kind hb) (by decide)),
    fun g' sz' i hb => World.cell?_setCell_other _ _ _ _ (fun e => by simp only [Addr.mk.injEq] at e; omega)⟩
theorem MarkT.below {lo hi B : Nat} {w w' : World} (h : MarkT lo hi w w') (hB : B ≤ lo) (hw : B ≤ w.heap.size) : Below B w w' :=
  ⟨h.os, h.tape, h.output, h.size, fun q hq => h.far q (by omega) (Or.inl (by omega))⟩

theorem EntBl.mark {lo hi lo' hi' g m : Nat} {w w' : World} (h : EntBl lo hi w g m) (k : MarkT lo' hi' w w') : EntBl lo hi w' g m := ⟨h.1, h.2.1, k.blk _ _ _ h.2.2⟩
theorem RunsBl.mark {lo hi lo' hi' g : Nat} {w w' : World} {B : List RunD} (h : RunsBl lo hi w g B) (k : MarkT lo' hi' w w') : RunsBl lo hi w' g B :=
  ⟨h.at1, h.at2, k.blk _ _ _ h.blk, fun i p hp => by obtain ⟨e, c, b⟩ := h.runs i p hp; exact ⟨e, (k.ev _ _ _ h.blk).trans c, b.mark k⟩⟩
theorem LevsBl.mark {lo hi lo' hi' g : Nat} {w w' : World} {V : List (List RunD)} (h : LevsBl lo hi w g V) (k : MarkT lo' hi' w w') : LevsBl lo hi w' g V :=
  ⟨h.at1, h.at2, k.blk _ _ _ h.blk, fun i p hp => by obtain ⟨e, c, b⟩ := h.levs i p hp; exact ⟨e, (k.sl _ _ _ h.blk).trans c, b.mark k⟩⟩
theorem EntBl.mono {lo hi lo' hi' g m : Nat} {w : World} (h : EntBl lo hi w g m) (h1 : lo' ≤ lo) (h2 : hi ≤ hi') : EntBl lo' hi' w g m := ⟨Nat.le_trans h1 h.1, Nat.lt_of_lt_of_le h.2.1 h2, h.2.2⟩
theorem RunsBl.mono {lo hi lo' hi' g : Nat} {w : World} {B : List RunD} (h : RunsBl lo hi w g B) (h1 : lo' ≤ lo) (h2 : hi ≤ hi') : RunsBl lo' hi' w g B :=
  ⟨Nat.le_trans h1 h.at1, Nat.lt_of_lt_of_le h.at2 h2, h.blk, fun i p hp => by obtain ⟨e, c, b⟩ := h.runs i p hp; exact ⟨e, c, b.mono h1 h2⟩⟩
theorem LevsBl.mono {lo hi lo' hi' g : Nat} {w : World} {V : List (List RunD)} (h : LevsBl lo hi w g V) (h1 : lo' ≤ lo) (h2 : hi ≤ hi') : LevsBl lo' hi' w g V :=
  ⟨Nat.le_trans h1 h.at1, Nat.lt_of_lt_of_le h.at2 h2, h.blk, fun i p hp => by obtain ⟨e, c, b⟩ := h.levs i p hp; exact ⟨e, c, b.mono h1 h2⟩⟩

/-- How many marks a list of runs takes, and a list of levels. -/
def mkR (B : List RunD) : Nat := (B.map fun p => 5 * p.1.length + 1).sum
def mkV (V : List (List RunD)) : Nat := (V.map mkR).sum
theorem mkR_take {B : List RunD} {k : Nat} {p : RunD} (h : B[k]? = some p) : mkR (B.take (k + 1)) = mkR (B.take k) + (5 * p.1.length + 1) := by
  rw [List.take_add_one, h]
  simp [mkR]
theorem mkV_take {V : List (List RunD)} {k : Nat} {B : List RunD} (h : V[k]? = some B) : mkV (V.take (k + 1)) = mkV (V.take k) + mkR B := by
  rw [List.take_add_one, h]
  simp [mkV]
theorem mkR_le (B : List RunD) (k : Nat) : mkR (B.take k) ≤ mkR B := by
  have h : mkR B = mkR (B.take k) + mkR (B.drop k) := by
    conv => lhs; rw [← List.take_append_drop k B]
    simp only [mkR, List.map_append, List.sum_append]
  omega
theorem mkV_le (V : List (List RunD)) (k : Nat) : mkV (V.take k) ≤ mkV V := by
  have h : mkV V = mkV (V.take k) + mkV (V.drop k) := by
    conv => lhs; rw [← List.take_append_drop k V]
    simp only [mkV, List.map_append, List.sum_append]
  omega

set_option maxRecDepth 100000 in
set_option maxHeartbeats 2000000 in
theorem markEnts_bl (lo hi g m k : Nat) (w : World) (hE : EntBl lo hi w g m) (hcm : m ≤ 1048576) (hk : 1 ≤ k) (hn : k + 5 * m ≤ 1000000000) :
    Calls Tryz.prog 27 #[.slice (some ⟨g, 0, none⟩) m m, .int .i64 k] w fun e w' => e = .returned (.int .i64 ((k + 5 * m : Nat) : Int)) ∧ MarkT lo hi w w' := by
  obtain ⟨h1, h2, hB⟩ := hE
  have HB0 : Hid (BlockOf w g 78 (m * 5)) := hB
  clear hB
  go_enter Tryz.func27, Tryz.ntmps27
  go_wp2
  go_loopw [1, 5] (fun kv iv wr => ∃ (j : Nat), j ≤ m ∧ iv = .int .i64 j ∧ kv = .int .i64 ((k + 5 * j : Nat) : Int) ∧ MarkT lo hi w wr) (fun _ iv _ => m - (intOf iv).toNat)
  case atStart => exact ⟨0, Nat.zero_le _, rfl, rfl, MarkT.refl _ _ _⟩
  case round =>
    obtain ⟨j, hj, rfl, rfl, hM⟩ := hrel
    have HM : Hid (MarkT lo hi w wr) := hM
    clear hM
    obtain ⟨K, hK⟩ : ∃ K, K = k + 5 * j := ⟨_, rfl⟩
    have HK : Hid (K = k + 5 * j) := hK
    rw [← hK]
    by_cases hlt : j < m
    · have hK1 : 1 ≤ K := by omega
      have hK2 : K + 5 ≤ 1000000000 := by omega
      have hltI : (j : Int) < (m : Int) := by omega
      clear hK
      go_wp2_with fail
      refine (markText_any K _ hK1 (by omega)).mono ?_
      rintro e w1 ⟨rfl, hb1⟩
      have HM1 : Hid (MarkT lo hi w w1) := HM.out.trans (MarkT.of_below hb1)
      have hbk := HM1.out.blk _ _ _ HB0.out
      obtain ⟨v0, c0⟩ := hbk.cell (o := j * 5) (by omega)
      obtain ⟨v1, c1⟩ := hbk.cell (o := j * 5 + 1) (by omega)
      obtain ⟨v2, c2⟩ := hbk.cell (o := j * 5 + 2) (by omega)
      have f0 := hbk.frozen (j * 5)
      have f1 := hbk.frozen (j * 5 + 1)
      have f2 := hbk.frozen (j * 5 + 2)
      have hg1 := hbk.lt
      have HBK : Hid (BlockOf w1 g 78 (m * 5)) := hbk
      have CM : Hid (∀ w, Calls Tryz.prog 61 #[.int .i64 ((K : Int) + 1 + 1 + 1)] w fun e w' => e = .returned (.string (markT (K + 3))) ∧ Below w.heap.size w w') := by
        have e3 : (K : Int) + 1 + 1 + 1 = ((K + 3 : Nat) : Int) := by omega
        rw [e3]
        exact fun w => markText_any (K + 3) w (by omega) (by omega)
      clear hb1 hbk
      go_wp2_with fail
      obtain ⟨W1, hW1⟩ : ∃ W1, W1 = (((w1.setCell ⟨g, j * 5, none⟩ (.string (markT K))).setCell ⟨g, j * 5 + 1, none⟩ (.int .i64 ((K : Int) + 1))).setCell ⟨g, j * 5 + 2, none⟩ (.int .i64 ((K : Int) + 1 + 1))) := ⟨_, rfl⟩
      have HM2 : Hid (MarkT lo hi w W1) := by
        rw [hW1]
        exact ((HM1.out.trans (MarkT.set _ HBK.out h1 h2 (by decide) (by decide))).trans (MarkT.set _ (HBK.out.setCell _) h1 h2 (by decide) (by decide))).trans (MarkT.set _ ((HBK.out.setCell _).setCell _) h1 h2 (by decide) (by decide))
      rw [← hW1]
      clear hW1 c0 c1 c2 f0 f1 f2
      refine (CM.out _).mono ?_
      rintro e w2 ⟨rfl, hb2⟩
      have HM3 : Hid (MarkT lo hi w w2) := HM2.out.trans (MarkT.of_below hb2)
      have hbk := HM3.out.blk _ _ _ HB0.out
      obtain ⟨v3, c3⟩ := hbk.cell (o := j * 5 + 3) (by omega)
      obtain ⟨v4, c4⟩ := hbk.cell (o := j * 5 + 4) (by omega)
      have f3 := hbk.frozen (j * 5 + 3)
      have f4 := hbk.frozen (j * 5 + 4)
      have hg2 := hbk.lt
      have HBK3 : Hid (BlockOf w2 g 78 (m * 5)) := hbk
      clear hb2 hbk
      go_wp2
      go_roundw
      case rel =>
        refine ⟨j + 1, by omega, by go_num, by have := HK.out; go_num, ?_⟩
        exact (HM3.out.trans (MarkT.set _ HBK3.out h1 h2 (by decide) (by decide))).trans (MarkT.set _ (HBK3.out.setCell _) h1 h2 (by decide) (by decide))
      case measure => simp [intOf]; omega
    · have hltI : ¬ (j : Int) < (m : Int) := by omega
      have hjm : j = m := by omega
      go_wp2
      go_ret
      exact ⟨by first | rfl | simp | (rw [hK, hjm]), HM.out⟩

set_option maxRecDepth 100000 in
set_option maxHeartbeats 2000000 in
theorem markInts_bl (lo hi g m k : Nat) (w : World) (h1 : lo ≤ g) (h2 : g < hi) (hB : BlockOf w g 3 (m * 1)) (hn : k + m ≤ 1000000000) :
    Calls Tryz.prog 47 #[.slice (some ⟨g, 0, none⟩) m m, .int .i64 k] w fun e w' => e = .returned (.int .i64 ((k + m : Nat) : Int)) ∧ MarkT lo hi w w' := by
  have HB0 : Hid (BlockOf w g 3 (m * 1)) := hB
  clear hB
  go_enter Tryz.func47, Tryz.ntmps47
  go_wp2
  go_loopw [1, 5] (fun kv iv wr => ∃ (j : Nat), j ≤ m ∧ iv = .int .i64 j ∧ kv = .int .i64 ((k + j : Nat) : Int) ∧ MarkT lo hi w wr) (fun _ iv _ => m - (intOf iv).toNat)
  case atStart => exact ⟨0, Nat.zero_le _, rfl, rfl, MarkT.refl _ _ _⟩
  case round =>
    obtain ⟨j, hj, rfl, rfl, hM⟩ := hrel
    have HM : Hid (MarkT lo hi w wr) := hM
    have hbk := hM.blk _ _ _ HB0.out
    clear hM
    obtain ⟨K, hK⟩ : ∃ K, K = k + j := ⟨_, rfl⟩
    have HK : Hid (K = k + j) := hK
    rw [← hK]
    have hK2 : K ≤ 1000000000 := by omega
    clear hK
    by_cases hlt : j < m
    · have hltI : (j : Int) < (m : Int) := by omega
      obtain ⟨v0, c0⟩ := hbk.cell (o := j) (by omega)
      have f0 := hbk.frozen j
      have hg1 := hbk.lt
      have HBK : Hid (BlockOf wr g 3 (m * 1)) := hbk
      clear hbk
      go_wp2
      go_roundw
      case rel => exact ⟨j + 1, by omega, by go_num, by have := HK.out; go_num, HM.out.trans (MarkT.set _ HBK.out h1 h2 (by decide) (by decide))⟩
      case measure => simp [intOf]; omega
    · have hltI : ¬ (j : Int) < (m : Int) := by omega
      have HKN : Hid (K = k + m) := by have := HK.out; show K = k + m; omega
      clear hbk
      go_wp2
      go_ret
      exact ⟨by rw [HKN.out]; first | rfl | simp, HM.out⟩

set_option maxRecDepth 100000 in
set_option maxHeartbeats 2000000 in
theorem markRuns_bl (lo hi g n k : Nat) (B : List RunD) (w : World) (hR : RunsBl lo hi w g B) (hln : B.length = n) (hcm : n ≤ 1048576) (hsm : ∀ p ∈ B, p.1.length ≤ 1048576) (hk : 1 ≤ k) (hn : k + mkR B ≤ 1000000000) :
    Calls Tryz.prog 83 #[.slice (some ⟨g, 0, none⟩) n n, .int .i64 k] w fun e w' => e = .returned (.int .i64 ((k + mkR B : Nat) : Int)) ∧ MarkT lo hi w w' := by
  have h1 := hR.at1
  have h2 := hR.at2
  have HR0 : Hid (RunsBl lo hi w g B) := hR
  have HLN : Hid (B.length = n) := hln
  have HSM : Hid (∀ p ∈ B, p.1.length ≤ 1048576) := hsm
  have HN : Hid (k + mkR B ≤ 1000000000) := hn
  clear hR hsm hn hln
  go_enter Tryz.func83, Tryz.ntmps83
  go_wp2
  go_loopw [1, 5] (fun kv iv wr => ∃ (j K : Nat), j ≤ n ∧ iv = .int .i64 j ∧ kv = .int .i64 (K : Int) ∧ K = k + mkR (B.take j) ∧ MarkT lo hi w wr) (fun _ iv _ => n - (intOf iv).toNat)
  case atStart => exact ⟨0, k, Nat.zero_le _, rfl, rfl, by simp [mkR], MarkT.refl _ _ _⟩
  case round =>
    obtain ⟨j, K, hj, rfl, rfl, hK, hM⟩ := hrel
    have HM : Hid (MarkT lo hi w wr) := hM
    have hR := HR0.out.mark hM
    have HK : Hid (K = k + mkR (B.take j)) := hK
    clear hK hM
    by_cases hlt : j < n
    · have hltI : (j : Int) < (n : Int) := by omega
      obtain ⟨p, hp⟩ : ∃ p, B[j]? = some p := ⟨_, List.getElem?_eq_getElem (by rw [HLN.out]; exact hlt)⟩
      obtain ⟨e, c0, hE⟩ := hR.runs j p hp
      have hsp := HSM.out p (List.mem_of_getElem? hp)
      have HNX : Hid (mkR (B.take (j + 1)) = mkR (B.take j) + (5 * p.1.length + 1)) := mkR_take hp
      have hle : K + 5 * p.1.length + 1 ≤ 1000000000 := by
        have a1 := mkR_le B (j + 1)
        have a2 := HNX.out
        have a3 := HN.out
        have a4 := HK.out
        omega
      have hk1 : 1 ≤ K := by have := HK.out; omega
      obtain ⟨m, hm⟩ : ∃ m, p.1.length = m := ⟨_, rfl⟩
      have HMM : Hid (p.1.length = m) := hm
      rw [hm] at c0 hE hsp hle
      have hgw := hR.blk.lt
      have HE : Hid (EntBl lo hi wr e m) := hE
      clear hm hE hp hR
      go_wp2_with fail
      refine (markEnts_bl lo hi e m K wr HE.out hsp hk1 (by omega)).mono ?_
      rintro e' w1 ⟨rfl, hM1⟩
      have HM1 : Hid (MarkT lo hi w w1) := HM.out.trans hM1
      have hR1 := HR0.out.mark HM1.out
      have hbk := hR1.blk
      rw [HLN.out] at hbk
      obtain ⟨v1, c1⟩ := hbk.cell (o := j * 2 + 1) (by omega)
      have f1 := hbk.frozen (j * 2 + 1)
      have hg1 := hbk.lt
      have HBK : Hid (BlockOf w1 g 102 (n * 2)) := hbk
      obtain ⟨K1, hK1⟩ : ∃ K1 : Nat, K1 = K + 5 * m := ⟨_, rfl⟩
      have HK1 : Hid (K1 = K + 5 * m) := hK1
      rw [← hK1]
      have hK1b : K1 ≤ 1000000000 := by omega
      clear hbk hR1 hM1 hK1 c0
      go_wp2
      go_roundw
      case rel =>
        refine ⟨j + 1, K1 + 1, by omega, by go_num, by go_num, ?_, HM1.out.trans (MarkT.setOdd _ HBK.out h1 h2)⟩
        have a1 := HNX.out
        have a2 := HK.out
        have a3 := HK1.out
        have a4 := HMM.out
        omega
      case measure => simp [intOf]; omega
    · have hltI : ¬ (j : Int) < (n : Int) := by omega
      have HKN : Hid (K = k + mkR B) := by
        have := HK.out
        rw [List.take_of_length_le (by rw [HLN.out]; omega)] at this
        exact this
      clear hR
      go_wp2
      go_ret
      exact ⟨by have e := HKN.out; first | rfl | (subst e; rfl) | (rw [e]; simp) | (simp [e]), HM.out⟩

set_option maxRecDepth 100000 in
set_option maxHeartbeats 2000000 in
theorem markLevs_bl (lo hi g n k : Nat) (V : List (List RunD)) (w : World) (hR : LevsBl lo hi w g V) (hln : V.length = n) (hcm : n ≤ 1048576) (hsm : ∀ B ∈ V, B.length ≤ 1048576 ∧ ∀ p ∈ B, p.1.length ≤ 1048576) (hk : 1 ≤ k) (hn : k + mkV V ≤ 1000000000) :
    Calls Tryz.prog 46 #[.slice (some ⟨g, 0, none⟩) n n, .int .i64 k] w fun e w' => e = .returned (.int .i64 ((k + mkV V : Nat) : Int)) ∧ MarkT lo hi w w' := by
  have HR0 : Hid (LevsBl lo hi w g V) := hR
  have HLN : Hid (V.length = n) := hln
  have HSM : Hid (∀ B ∈ V, B.length ≤ 1048576 ∧ ∀ p ∈ B, p.1.length ≤ 1048576) := hsm
  have HN : Hid (k + mkV V ≤ 1000000000) := hn
  clear hR hsm hn hln
  go_enter Tryz.func46, Tryz.ntmps46
  go_wp2
  go_loopw [1, 5] (fun kv iv wr => ∃ (j K : Nat), j ≤ n ∧ iv = .int .i64 j ∧ kv = .int .i64 (K : Int) ∧ K = k + mkV (V.take j) ∧ MarkT lo hi w wr) (fun _ iv _ => n - (intOf iv).toNat)
  case atStart => exact ⟨0, k, Nat.zero_le _, rfl, rfl, by simp [mkV], MarkT.refl _ _ _⟩
  case round =>
    obtain ⟨j, K, hj, rfl, rfl, hK, hM⟩ := hrel
    have HM : Hid (MarkT lo hi w wr) := hM
    have hR := HR0.out.mark hM
    have HK : Hid (K = k + mkV (V.take j)) := hK
    clear hK hM
    by_cases hlt : j < n
    · have hltI : (j : Int) < (n : Int) := by omega
      obtain ⟨B, hp⟩ : ∃ B, V[j]? = some B := ⟨_, List.getElem?_eq_getElem (by rw [HLN.out]; exact hlt)⟩
      obtain ⟨e, c0, hE⟩ := hR.levs j B hp
      have hsp := HSM.out B (List.mem_of_getElem? hp)
      have HNX : Hid (mkV (V.take (j + 1)) = mkV (V.take j) + mkR B) := mkV_take hp
      have hle : K + mkR B ≤ 1000000000 := by
        have a1 := mkV_le V (j + 1)
        have a2 := HNX.out
        have a3 := HN.out
        have a4 := HK.out
        omega
      have hk1 : 1 ≤ K := by have := HK.out; omega
      obtain ⟨m, hm⟩ : ∃ m, B.length = m := ⟨_, rfl⟩
      rw [hm] at c0 hsp
      have CM : Hid (Calls Tryz.prog 83 #[.slice (some ⟨e, 0, none⟩) m m, .int .i64 (K : Int)] wr fun e w' => e = .returned (.int .i64 ((K + mkR B : Nat) : Int)) ∧ MarkT lo hi wr w') := markRuns_bl lo hi e m K B wr hE hm hsp.1 hsp.2 hk1 hle
      obtain ⟨hsp, _⟩ := hsp
      have hgw := hR.blk.lt
      clear hm hE hp hR
      obtain ⟨K1, hK1⟩ : ∃ K1 : Nat, K1 = K + mkR B := ⟨_, rfl⟩
      have HK1 : Hid (K1 = K + mkR B) := hK1
      rw [← hK1] at CM
      have hK1b : K1 ≤ 1000000000 := by omega
      clear hK1 hle
      go_wp2_with fail
      refine CM.out.mono ?_
      rintro e' w1 ⟨rfl, hM1⟩
      have HM1 : Hid (MarkT lo hi w w1) := HM.out.trans hM1
      clear hM1 c0
      go_wp2
      go_roundw
      case rel =>
        refine ⟨j + 1, K1, by omega, by go_num, rfl, ?_, HM1.out⟩
        have a1 := HNX.out
        have a2 := HK.out
        have a3 := HK1.out
        omega
      case measure => simp [intOf]; omega
    · have hltI : ¬ (j : Int) < (n : Int) := by omega
      have HKN : Hid (K = k + mkV V) := by
        have := HK.out
        rw [List.take_of_length_le (by rw [HLN.out]; omega)] at this
        exact this
      clear hR
      go_wp2
      go_ret
      exact ⟨by have e := HKN.out; first | rfl | (subst e; rfl) | (rw [e]; simp) | (simp [e]), HM.out⟩
end Go.Proofs.YtlmgojlffgkciaaGreat
