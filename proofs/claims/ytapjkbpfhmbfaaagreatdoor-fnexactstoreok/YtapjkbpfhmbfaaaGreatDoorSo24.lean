/-
  How a list of numbers lies in memory, what that keeps, and how one that came in is opened.
  How a list of runs and a list of levels lie in memory; what that keeps; and how those that came in are opened.
  slices.Backward at entries: what it yields, for every loop body that keeps what it reads, by walks of its Go text.
-/
import Derived.Deep.SlicePairs
import Derived.OpenShut
import Derived.Test.YtapjkbpfhmbfaaaGreatDoorSo02
import Derived.Test.YtapjkbpfhmbfaaaGreatDoorSo23
import Derived.Test.YtapjkbpfhmbfaaaGreatDoorSo21
namespace Go.Proofs.YtapjkbpfhmbfaaaGreatDoor
set_option maxRecDepth 100000
open Go.RowKit Go.Joins Go.ChangeShapes Go.WideShapes
theorem Tryz.infoInt : (Tryz.prog.info? 3).map (fun i => (i.zero, i.size, i.bytes)) = some (some (.int .i64 0), 1, 8) := by kernel_rfl
def Same (lo : Nat) (w w' : World) : Prop := w.heap.size ≤ w'.heap.size ∧ ∀ b o, lo ≤ b → b < w.heap.size → w'.cell? ⟨b, o, none⟩ = w.cell? ⟨b, o, none⟩
theorem Same.of_below {lo : Nat} {w w' : World} (hb : Below w.heap.size w w') : Same lo w w' := ⟨hb.size, fun b o _ h => hb.cell (p := ⟨b, o, none⟩) h⟩
theorem Same.of_set {lo : Nat} {w : World} (p : Addr) (u : Value) (h : p.block < lo) : Same lo w (w.setCell p u) :=
  ⟨by simp [World.setCell], fun b o hb _ => World.cell?_of_block (by rw [Below.heap_setCell _ _ _ _ (by simp only; omega)])⟩
theorem Same.trans {lo : Nat} {w w' w'' : World} (h : Same lo w w') (h' : Same lo w' w'') : Same lo w w'' :=
  ⟨Nat.le_trans h.1 h'.1, fun b o hb hl => (h'.2 b o hb (Nat.lt_of_lt_of_le hl h.1)).trans (h.2 b o hb hl)⟩
structure IntsIn (lo : Nat) (w : World) (a : Option Addr) (len cap : Nat) (S : List Int) : Prop where
  length : S.length = len
  room : len ≤ cap
  big : cap ≤ maxLen
  wfs : ∀ q ∈ S, (Lit.int .i64 q).wf = true
  nil : a = none → len = 0
  lies : ∀ x, a = some x → 0 < len → x.block < w.heap.size ∧ x.spot = none ∧ lo ≤ x.block
  cells : ∀ x, a = some x → ∀ i (h : i < S.length), w.cell? ⟨x.block, x.off + i, none⟩ = some (.int .i64 S[i])
theorem IntsIn.same {lo : Nat} {w w' : World} {a : Option Addr} {len cap : Nat} {S : List Int} (h : IntsIn lo w a len cap S) (hs : Same lo w w') : IntsIn lo w' a len cap S where
  length := h.length
  room := h.room
  big := h.big
  wfs := h.wfs
  nil := h.nil
  lies := fun x e hp => ⟨Nat.lt_of_lt_of_le (h.lies x e hp).1 hs.1, (h.lies x e hp).2⟩
  cells := fun x e i hi => by
    obtain ⟨hx, _, hlo⟩ := h.lies x e (by have := h.length; omega)
    exact (hs.2 _ _ hlo hx).trans (h.cells x e i hi)
theorem IntsIn.keep {lo : Nat} {w w' : World} {a : Option Addr} {len cap : Nat} {S : List Int} (h : IntsIn lo w a len cap S) (hb : Below w.heap.size w w') : IntsIn lo w' a len cap S := h.same (Same.of_below hb)
theorem IntsIn.lower {lo lo' : Nat} {w : World} {a : Option Addr} {len cap : Nat} {S : List Int} (h : IntsIn lo w a len cap S) (hl : lo' ≤ lo) : IntsIn lo' w a len cap S :=
  ⟨h.length, h.room, h.big, h.wfs, h.nil, fun x e hp => ⟨(h.lies x e hp).1, (h.lies x e hp).2.1, Nat.le_trans hl (h.lies x e hp).2.2⟩, h.cells⟩
theorem IntsIn.form {lo : Nat} {w : World} {a : Option Addr} {len cap : Nat} {S : List Int} (h : IntsIn lo w a len cap S) (hl : 1 ≤ len) : ∃ b off, a = some ⟨b, off, none⟩ ∧ b < w.heap.size := by
  cases a with
  | none => have := h.nil rfl; omega
  | some x =>
    obtain ⟨b, off, spot⟩ := x
    obtain ⟨h1, h2, _⟩ := h.lies _ rfl (by omega)
    simp only at h1 h2
    subst h2
    exact ⟨b, off, rfl, h1⟩
theorem IntsIn.num {lo : Nat} {w wr : World} {b off len cap : Nat} {S : List Int} (h : IntsIn lo w (some ⟨b, off, none⟩) len cap S) (hb : Below w.heap.size w wr) (k : Nat) (hk : k < len) :
    ∃ q, S[k]? = some q ∧ (Lit.int .i64 q).wf = true ∧ wr.cell? ⟨b, off + k, none⟩ = some (.int .i64 q) := by
  have hk' : k < S.length := by rw [h.length]; exact hk
  exact ⟨S[k], List.getElem?_eq_getElem hk', h.wfs _ (List.getElem_mem hk'), (h.keep hb).cells _ rfl k hk'⟩
theorem plain_at {a : Addr} (h : a.spot = none) (j : Nat) : a.add j = ⟨a.block, a.off + j, none⟩ := by
  obtain ⟨b, o, sp⟩ := a
  simp only at h
  subst h
  exact add_plain _ _ _
theorem open_ints {H : Type} {enc : TypeId × Value → H} {W : World} {base n0 : Nat} {v : Value} {x : DataW H × List MemPlace} {held : Bool}
    (hf : DataW.trod enc Tryz.prog W base (fun _ => true) held n0 24 [v] = some x) :
    ∃ (a : Option Addr) (len cap : Nat) (S : List Int), v = .slice a len cap ∧ IntsIn 0 W a len cap S := by
  have r5 : Tryz.prog.cellsOf 3 = 1 := by kernel_rfl
  rcases Deep.open_slice Tryz.underlying24 hf with ⟨hcs, _⟩ | ⟨a, len, cap, mm, n, D, Pl, hcs, hb, hl, hm, hmm, _, hx⟩
  · simp at hcs
    subst hcs
    exact ⟨none, 0, 0, [], rfl, ⟨rfl, Nat.le_refl _, Nat.zero_le _, by simp, fun _ => rfl, (fun x e => by cases e), (fun x e => by cases e)⟩⟩
  · simp at hcs
    subst hcs
    simp at hmm
    rw [r5] at hx
    have each : ∀ i, i < mm → ∃ q : Int, (Lit.int .i64 q).wf = true ∧ W.cell? (a.add i) = some (.int .i64 q) := by
      intro i hi
      obtain ⟨cs', g1, g2⟩ := hx i hi
      obtain ⟨_, hlen, hcell⟩ := World.cells?_some g1
      match cs', hlen with
      | [u0], _ =>
        have k0 := hcell 0 (by omega)
        rw [Deep.add_add] at k0
        obtain ⟨q, e0, _, wq⟩ := DataW.trod_int Tryz.underlying3 g2
        simp at e0
        subst e0
        exact ⟨q, wq, by simpa using k0⟩
    obtain ⟨f, hf'⟩ := Deep.choose_lt each
    have spot : 0 < len → a.spot = none := fun hp => by
      obtain ⟨_, c0⟩ := hf' 0 (by omega)
      simpa [Addr.add] using World.cell?_spot c0
    refine ⟨some a, len, cap, (List.range len).map f, rfl, ⟨by simp, hl, hm, ?_, (fun e => by cases e), ?_, ?_⟩⟩
    · intro q hq
      obtain ⟨i, hi, rfl⟩ := List.mem_map.1 hq
      exact (hf' i (by have := List.mem_range.1 hi; omega)).1
    · rintro x e hp
      cases e
      refine ⟨?_, spot hp, Nat.zero_le _⟩
      obtain ⟨_, c0⟩ := hf' 0 (by omega)
      have := World.block_lt_of_cell? _ _ c0
      simpa [Addr.add] using this
    · rintro x e i hi
      cases e
      simp at hi
      obtain ⟨_, g0⟩ := hf' i (by omega)
      rw [plain_at (spot (by omega))] at g0
      simp only [List.getElem_map, List.getElem_range]
      exact g0
end Go.Proofs.YtapjkbpfhmbfaaaGreatDoor

namespace Go.Proofs.YtapjkbpfhmbfaaaGreatDoor
set_option maxRecDepth 100000
open Go.RowKit Go.Joins Go.ChangeShapes Go.WideShapes
abbrev RunD := List EntD × Int
def EntsIn (lo : Nat) (w : World) (a : Option Addr) (len cap : Nat) (L : List EntD) : Prop := EntsAt w a len cap L ∧ ∀ x, a = some x → 0 < len → lo ≤ x.block
theorem EntsIn.same {lo : Nat} {w w' : World} {a : Option Addr} {len cap : Nat} {L : List EntD} (h : EntsIn lo w a len cap L) (hs : Same lo w w') : EntsIn lo w' a len cap L :=
  ⟨h.1.moved hs.1 (fun x e hp _ => hs.2 _ _ (h.2 x e hp) (h.1.lies x e hp).1), h.2⟩
theorem EntsIn.mono {lo lo' : Nat} {w : World} {a : Option Addr} {len cap : Nat} {L : List EntD} (h : EntsIn lo w a len cap L) (hl : lo' ≤ lo) : EntsIn lo' w a len cap L := ⟨h.1, fun x e hp => Nat.le_trans hl (h.2 x e hp)⟩
structure RunsIn (lo : Nat) (w : World) (a : Option Addr) (len cap : Nat) (B : List RunD) : Prop where
  length : B.length = len
  room : len ≤ cap
  big : cap ≤ maxLen
  nil : a = none → len = 0
  lies : ∀ x, a = some x → 0 < len → x.block < w.heap.size ∧ x.spot = none ∧ lo ≤ x.block
  runs : ∀ x, a = some x → ∀ i (h : i < B.length), (Lit.int .i64 B[i].2).wf = true ∧ ∃ s n c, w.cell? ⟨x.block, x.off + i * 2, none⟩ = some (.slice s n c) ∧ w.cell? ⟨x.block, x.off + i * 2 + 1, none⟩ = some (.int .i64 B[i].2) ∧ EntsIn lo w s n c B[i].1
theorem RunsIn.same {lo : Nat} {w w' : World} {a : Option Addr} {len cap : Nat} {B : List RunD} (h : RunsIn lo w a len cap B) (hs : Same lo w w') : RunsIn lo w' a len cap B where
  length := h.length
  room := h.room
  big := h.big
  nil := h.nil
  lies := fun x e hp => ⟨Nat.lt_of_lt_of_le (h.lies x e hp).1 hs.1, (h.lies x e hp).2⟩
  runs := fun x e i hi => by
    obtain ⟨hx, _, hlo⟩ := h.lies x e (by have := h.length; omega)
    obtain ⟨hw, s, n, c, c0, c1, hL⟩ := h.runs x e i hi
    exact ⟨hw, s, n, c, (hs.2 _ _ hlo hx).trans c0, (hs.2 _ _ hlo hx).trans c1, hL.same hs⟩
theorem RunsIn.keep {lo : Nat} {w w' : World} {a : Option Addr} {len cap : Nat} {B : List RunD} (h : RunsIn lo w a len cap B) (hb : Below w.heap.size w w') : RunsIn lo w' a len cap B := h.same (Same.of_below hb)
theorem RunsIn.mono {lo lo' : Nat} {w : World} {a : Option Addr} {len cap : Nat} {B : List RunD} (h : RunsIn lo w a len cap B) (hl : lo' ≤ lo) : RunsIn lo' w a len cap B :=
  ⟨h.length, h.room, h.big, h.nil, fun x e hp => ⟨(h.lies x e hp).1, (h.lies x e hp).2.1, Nat.le_trans hl (h.lies x e hp).2.2⟩, fun x e i hi => by obtain ⟨hw, s, n, c, c0, c1, hL⟩ := h.runs x e i hi; exact ⟨hw, s, n, c, c0, c1, hL.mono hl⟩⟩
theorem RunsIn.form {lo : Nat} {w : World} {a : Option Addr} {len cap : Nat} {B : List RunD} (h : RunsIn lo w a len cap B) (hl : 1 ≤ len) : ∃ b off, a = some ⟨b, off, none⟩ ∧ b < w.heap.size := by
  cases a with
  | none => have := h.nil rfl; omega
  | some x =>
    obtain ⟨b, off, spot⟩ := x
    obtain ⟨h1, h2, _⟩ := h.lies _ rfl (by omega)
    simp only at h1 h2
    subst h2
    exact ⟨b, off, rfl, h1⟩
theorem RunsIn.run {lo : Nat} {w wr : World} {b off len cap : Nat} {B : List RunD} (h : RunsIn lo w (some ⟨b, off, none⟩) len cap B) (hb : Below w.heap.size w wr) (k : Nat) (hk : k < len) :
    ∃ L m s n c, B[k]? = some (L, m) ∧ (Lit.int .i64 m).wf = true ∧ wr.cell? ⟨b, off + k * 2, none⟩ = some (.slice s n c) ∧ wr.cell? ⟨b, off + k * 2 + 1, none⟩ = some (.int .i64 m) ∧ EntsIn lo wr s n c L := by
  have hk' : k < B.length := by rw [h.length]; exact hk
  obtain ⟨hw, s, n, c, c0, c1, hL⟩ := (h.keep hb).runs _ rfl k hk'
  exact ⟨B[k].1, B[k].2, s, n, c, List.getElem?_eq_getElem hk', hw, c0, c1, hL⟩
theorem RunsIn.wfs {lo : Nat} {w : World} {a : Option Addr} {len cap : Nat} {B : List RunD} (h : RunsIn lo w a len cap B) : ∀ p ∈ B, (Lit.int .i64 p.2).wf = true := by
  intro p hp
  obtain ⟨j, hj, rfl⟩ := List.getElem_of_mem hp
  obtain ⟨b, off, rfl, _⟩ := h.form (by have := h.length; omega)
  exact (h.runs _ rfl j hj).1
theorem runsIn_nil (lo : Nat) (w : World) : RunsIn lo w none 0 0 [] := ⟨rfl, Nat.le_refl _, Nat.zero_le _, fun _ => rfl, (fun x e => by cases e), (fun x e => by cases e)⟩
structure LevelsIn (lo : Nat) (w : World) (a : Option Addr) (len cap : Nat) (V : List (List RunD)) : Prop where
  length : V.length = len
  room : len ≤ cap
  big : cap ≤ maxLen
  nil : a = none → len = 0
  lies : ∀ x, a = some x → 0 < len → x.block < w.heap.size ∧ x.spot = none ∧ lo ≤ x.block
  levels : ∀ x, a = some x → ∀ i (h : i < V.length), ∃ s n c, w.cell? ⟨x.block, x.off + i, none⟩ = some (.slice s n c) ∧ RunsIn lo w s n c V[i]
theorem LevelsIn.same {lo : Nat} {w w' : World} {a : Option Addr} {len cap : Nat} {V : List (List RunD)} (h : LevelsIn lo w a len cap V) (hs : Same lo w w') : LevelsIn lo w' a len cap V where
  length := h.length
  room := h.room
  big := h.big
  nil := h.nil
  lies := fun x e hp => ⟨Nat.lt_of_lt_of_le (h.lies x e hp).1 hs.1, (h.lies x e hp).2⟩
  levels := fun x e i hi => by
    obtain ⟨hx, _, hlo⟩ := h.lies x e (by have := h.length; omega)
    obtain ⟨s, n, c, c0, hL⟩ := h.levels x e i hi
    exact ⟨s, n, c, (hs.2 _ _ hlo hx).trans c0, hL.same hs⟩
theorem LevelsIn.keep {lo : Nat} {w w' : World} {a : Option Addr} {len cap : Nat} {V : List (List RunD)} (h : LevelsIn lo w a len cap V) (hb : Below w.heap.size w w') : LevelsIn lo w' a len cap V := h.same (Same.of_below hb)
theorem LevelsIn.mono {lo lo' : Nat} {w : World} {a : Option Addr} {len cap : Nat} {V : List (List RunD)} (h : LevelsIn lo w a len cap V) (hl : lo' ≤ lo) : LevelsIn lo' w a len cap V :=
  ⟨h.length, h.room, h.big, h.nil, fun x e hp => ⟨(h.lies x e hp).1, (h.lies x e hp).2.1, Nat.le_trans hl (h.lies x e hp).2.2⟩, fun x e i hi => by obtain ⟨s, n, c, c0, hL⟩ := h.levels x e i hi; exact ⟨s, n, c, c0, hL.mono hl⟩⟩
theorem LevelsIn.form {lo : Nat} {w : World} {a : Option Addr} {len cap : Nat} {V : List (List RunD)} (h : LevelsIn lo w a len cap V) (hl : 1 ≤ len) : ∃ b off, a = some ⟨b, off, none⟩ ∧ b < w.heap.size := by
  cases a with
  | none => have := h.nil rfl; omega
  | some x =>
    obtain ⟨b, off, spot⟩ := x
    obtain ⟨h1, h2, _⟩ := h.lies _ rfl (by omega)
    simp only at h1 h2
    subst h2
    exact ⟨b, off, rfl, h1⟩
theorem LevelsIn.level {lo : Nat} {w wr : World} {b off len cap : Nat} {V : List (List RunD)} (h : LevelsIn lo w (some ⟨b, off, none⟩) len cap V) (hb : Below w.heap.size w wr) (k : Nat) (hk : k < len) :
    ∃ B s n c, V[k]? = some B ∧ wr.cell? ⟨b, off + k, none⟩ = some (.slice s n c) ∧ RunsIn lo wr s n c B := by
  have hk' : k < V.length := by rw [h.length]; exact hk
  obtain ⟨s, n, c, c0, hL⟩ := (h.keep hb).levels _ rfl k hk'
  exact ⟨V[k], s, n, c, List.getElem?_eq_getElem hk', c0, hL⟩
theorem open_runs {H : Type} {enc : TypeId × Value → H} {W : World} {base n0 : Nat} {v : Value} {x : DataW H × List MemPlace} {held : Bool}
    (hf : DataW.trod enc Tryz.prog W base (fun _ => true) held n0 148 [v] = some x) :
    ∃ (a : Option Addr) (len cap : Nat) (B : List RunD), v = .slice a len cap ∧ RunsIn 0 W a len cap B := by
  have r4 : Tryz.prog.cellsOf 3 = 1 := by kernel_rfl
  have r5 : Tryz.prog.cellsOf 22 = 1 := by kernel_rfl
  rcases Deep.open_slice_pairs Tryz.underlying148 Tryz.underlying195 Tryz.cellsRunL rfl rfl r5 r4 hf with ⟨hcs, _⟩ | ⟨a, len, cap, mm, n, V0, V1, D0, D1, P0, P1, hcs, hb, hl, hm, hmm, _, hx⟩
  · simp at hcs
    subst hcs
    exact ⟨none, 0, 0, [], rfl, runsIn_nil _ _⟩
  · simp at hcs
    subst hcs
    simp at hmm
    have each : ∀ i, i < mm → ∃ l : RunD, (Lit.int .i64 l.2).wf = true ∧ ∃ s n c, W.cell? (a.add (i * 2)) = some (.slice s n c) ∧ W.cell? (a.add (i * 2 + 1)) = some (.int .i64 l.2) ∧ EntsIn 0 W s n c l.1 := by
      intro i hi
      obtain ⟨c0, c1, t0, t1⟩ := hx i hi
      obtain ⟨id, e1, _, wid⟩ := DataW.trod_int Tryz.underlying3 t1
      obtain ⟨s, n, c, L, e0, hL⟩ := open_ents t0
      simp at e1
      rw [e0] at c0
      rw [e1] at c1
      exact ⟨(L, id), wid, s, n, c, c0, c1, hL, fun _ _ _ => Nat.zero_le _⟩
    obtain ⟨f, hf'⟩ := Deep.choose_lt each
    have spot : 0 < len → a.spot = none := fun hp => by
      obtain ⟨_, s, n, c, c0, _⟩ := hf' 0 (by omega)
      simpa [Addr.add] using World.cell?_spot c0
    refine ⟨some a, len, cap, (List.range len).map f, rfl, ⟨by simp, hl, hm, (fun e => by cases e), ?_, ?_⟩⟩
    · rintro x e hp
      cases e
      refine ⟨?_, spot hp, Nat.zero_le _⟩
      obtain ⟨_, s, n, c, c0, _⟩ := hf' 0 (by omega)
      have := World.block_lt_of_cell? _ _ c0
      simpa [Addr.add] using this
    · rintro x e i hi
      cases e
      simp at hi
      obtain ⟨g, s, n, c, g0, g1, g2⟩ := hf' i (by omega)
      rw [plain_at (spot (by omega))] at g0 g1
      simp only [List.getElem_map, List.getElem_range]
      exact ⟨g, s, n, c, g0, by simpa [Nat.add_assoc] using g1, g2⟩
theorem open_levels {H : Type} {enc : TypeId × Value → H} {W : World} {base n0 : Nat} {v : Value} {x : DataW H × List MemPlace} {held : Bool}
    (hf : DataW.trod enc Tryz.prog W base (fun _ => true) held n0 23 [v] = some x) :
    ∃ (a : Option Addr) (len cap : Nat) (V : List (List RunD)), v = .slice a len cap ∧ LevelsIn 0 W a len cap V := by
  have r5 : Tryz.prog.cellsOf 148 = 1 := by kernel_rfl
  rcases Deep.open_slice Tryz.underlying23 hf with ⟨hcs, _⟩ | ⟨a, len, cap, mm, n, D, Pl, hcs, hb, hl, hm, hmm, _, hx⟩
  · simp at hcs
    subst hcs
    exact ⟨none, 0, 0, [], rfl, ⟨rfl, Nat.le_refl _, Nat.zero_le _, fun _ => rfl, (fun x e => by cases e), (fun x e => by cases e)⟩⟩
  · simp at hcs
    subst hcs
    simp at hmm
    rw [r5] at hx
    have each : ∀ i, i < mm → ∃ B : List RunD, ∃ s n c, W.cell? (a.add i) = some (.slice s n c) ∧ RunsIn 0 W s n c B := by
      intro i hi
      obtain ⟨cs', g1, g2⟩ := hx i hi
      obtain ⟨_, hlen, hcell⟩ := World.cells?_some g1
      match cs', hlen with
      | [u0], _ =>
        have k0 := hcell 0 (by omega)
        rw [Deep.add_add] at k0
        obtain ⟨s, n, c, B, e0, hB⟩ := open_runs g2
        subst e0
        exact ⟨B, s, n, c, by simpa using k0, hB⟩
    obtain ⟨f, hf'⟩ := Deep.choose_lt each
    have spot : 0 < len → a.spot = none := fun hp => by
      obtain ⟨s, n, c, c0, _⟩ := hf' 0 (by omega)
      simpa [Addr.add] using World.cell?_spot c0
    refine ⟨some a, len, cap, (List.range len).map f, rfl, ⟨by simp, hl, hm, (fun e => by cases e), ?_, ?_⟩⟩
    · rintro x e hp
      cases e
      refine ⟨?_, spot hp, Nat.zero_le _⟩
      obtain ⟨s, n, c, c0, _⟩ := hf' 0 (by omega)
      have := World.block_lt_of_cell? _ _ c0
      simpa [Addr.add] using this
    · rintro x e i hi
      cases e
      simp at hi
      obtain ⟨s, n, c, g0, g2⟩ := hf' i (by omega)
      rw [plain_at (spot (by omega))] at g0
      simp only [List.getElem_map, List.getElem_range]
      exact ⟨s, n, c, g0, g2⟩
structure TreeIn (lo : Nat) (w : World) (am : Option Addr) (nm cm : Nat) (av : Option Addr) (nv cv : Nat) (ak : Option Addr) (ns cs : Nat) (M : List EntD) (V : List (List RunD)) (S : List Int) : Prop where
  mem : EntsIn lo w am nm cm M
  levels : LevelsIn lo w av nv cv V
  snaps : IntsIn lo w ak ns cs S
theorem TreeIn.same {lo : Nat} {w w' : World} {am av ak : Option Addr} {nm cm nv cv ns cs : Nat} {M : List EntD} {V : List (List RunD)} {S : List Int} (h : TreeIn lo w am nm cm av nv cv ak ns cs M V S) (hs : Same lo w w') : TreeIn lo w' am nm cm av nv cv ak ns cs M V S := ⟨h.mem.same hs, h.levels.same hs, h.snaps.same hs⟩
theorem TreeIn.keep {lo : Nat} {w w' : World} {am av ak : Option Addr} {nm cm nv cv ns cs : Nat} {M : List EntD} {V : List (List RunD)} {S : List Int} (h : TreeIn lo w am nm cm av nv cv ak ns cs M V S) (hb : Below w.heap.size w w') : TreeIn lo w' am nm cm av nv cv ak ns cs M V S := h.same (Same.of_below hb)
end Go.Proofs.YtapjkbpfhmbfaaaGreatDoor

namespace Go.Proofs.YtapjkbpfhmbfaaaGreatDoor
set_option maxRecDepth 100000
set_option maxHeartbeats 2000000
open Go.RowKit Go.Shelf
attribute [local go_sem] Oper.semAt_some
def downTo (n k : Nat) : List (Fin n) := ((List.finRange n).drop k).reverse
theorem down_all (n : Nat) : downTo n n = [] := by simp [downTo]
theorem down_step {n k : Nat} (h : k < n) : downTo n k = downTo n (k + 1) ++ [⟨k, h⟩] := by
  unfold downTo
  rw [List.drop_eq_getElem_cons (by simpa using h)]
  simp
theorem down_pre (n k : Nat) : downTo n k <+: downTo n 0 := by
  unfold downTo
  rw [List.drop_zero]
  exact List.reverse_prefix.2 (List.drop_suffix _ _)
theorem down_len (n k : Nat) : (downTo n k).length = n - k := by simp [downTo]
def LieE (K : Nat → Prop) (w : World) (a : Option Addr) (len : Nat) (u0 u1 u2 u3 u4 : Nat → Value) : Prop := ∀ b o, a = some ⟨b, o, none⟩ → 1 ≤ len → K b ∧ ∀ i, i < len → w.cell? ⟨b, o + i * 5, none⟩ = some (u0 i) ∧ w.cell? ⟨b, o + i * 5 + 1, none⟩ = some (u1 i) ∧ w.cell? ⟨b, o + i * 5 + 2, none⟩ = some (u2 i) ∧ w.cell? ⟨b, o + i * 5 + 3, none⟩ = some (u3 i) ∧ w.cell? ⟨b, o + i * 5 + 4, none⟩ = some (u4 i)
theorem backE1_in (n l Bp : Nat) (K : Nat → Prop) (hn : 1 ≤ n) (a : Option Addr) (len cap : Nat) (u0 u1 u2 u3 u4 : Nat → Value) (J Jx : List (Fin len) → World → Prop) (W : World)
    (hY : ∀ pre (x : Fin len) W1, J pre W1 → pre.length < len → YieldAt Fence.wide (n - 1) Tryz.prog l #[.int .i64 (x.1 : Nat), .agg #[u0 x.1, u1 x.1, u2 x.1, u3 x.1, u4 x.1]] W1 fun e W' =>
      (e = .returned (.bool true) ∧ J (pre ++ [x]) W' ∧ KeepS K W1 W') ∨ (e = .returned (.bool false) ∧ Jx (pre ++ [x]) W'))
    (hKB : K Bp) (hp0 : W.cell? ⟨Bp, 0, none⟩ = some (.slice a len cap)) (hs : 1 ≤ len → ∃ b o, a = some ⟨b, o, none⟩) (hroom : len ≤ cap) (hbig : cap ≤ maxLen) (hKs : ∀ k, K k → k < W.heap.size)
    (hV : LieE K W a len u0 u1 u2 u3 u4) (h0 : J [] W) :
    CallsIn Fence.wide n Tryz.prog 242 #[.func (.yield l) #[] #[], .pointer (some ⟨Bp, 0, none⟩)] W fun e W' => (∃ v, e = .returned v) ∧
      ((∃ ys, ys = downTo len 0 ∧ J ys W') ∨ (∃ pre, pre <+: downTo len 0 ∧ Jx pre W')) := by
  unfold maxLen at hbig
  have HKS : Hid (∀ k, K k → k < W.heap.size) := hKs
  clear hKs
  refine callsIn_of_wp Tryz.func242 rfl trivial ?_ rfl
  simp only [Tryz.ntmps242, List.size_toArray, List.length_cons, List.length_nil, Nat.reduceAdd, Nat.reduceSub, Array.replicate_succ, Array.replicate_zero, List.push_toArray, List.append_toArray, List.nil_append, List.cons_append]
  have wl : IntKind.i64.wrap ((len : Int) - 1) = (len : Int) - 1 := by rw [IntWalk.i64_left]; unfold wrap64; omega
  gi_wp2
  gi_loopw [3] (fun iv wr => ∃ k : Nat, k ≤ len ∧ iv = .int .i64 ((k : Int) - 1) ∧ J (downTo len k) wr ∧ KeepS K W wr) (fun iv _ => (intOf iv + 1).toNat)
  case atStart => exact ⟨len, Nat.le_refl _, rfl, by rw [down_all]; exact h0, KeepS.refl _ _⟩
  case round =>
    obtain ⟨k, hk, rfl, hJs, hb⟩ := hrel
    have HB : Hid (KeepS K W wr) := hb
    have hcc := (hb.cell (p := ⟨Bp, 0, none⟩) hKB).trans hp0
    have hszw := hb.size
    have hBw : Bp < wr.heap.size := Nat.lt_of_lt_of_le (HKS.out Bp hKB) hszw
    cases k with
    | zero =>
      gi_wp2
      go_end0
      exact ⟨⟨_, rfl⟩, .inl ⟨_, rfl, hJs⟩⟩
    | succ j =>
      have hj : ((j + 1 : Nat) : Int) - 1 = (j : Int) := by omega
      rw [hj]
      have hjI : (j : Int) < (len : Int) := by omega
      have hjN : j < len := by omega
      have hj0 : (0 : Int) ≤ (j : Int) := by omega
      have wj : IntKind.i64.wrap ((j : Int) - 1) = (j : Int) - 1 := by rw [IntWalk.i64_left]; unfold wrap64; omega
      obtain ⟨b, o, rfl⟩ := hs (by omega)
      obtain ⟨hKb, hVe⟩ := hV b o rfl (by omega)
      have hbW : b < wr.heap.size := Nat.lt_of_lt_of_le (HKS.out b hKb) hszw
      obtain ⟨g0, g1, g2, g3, g4⟩ := hVe j hjN
      have c0 := (HB.out.cell (p := ⟨b, o + j * 5, none⟩) hKb).trans g0
      have c1 := (HB.out.cell (p := ⟨b, o + j * 5 + 1, none⟩) hKb).trans g1
      have c2 := (HB.out.cell (p := ⟨b, o + j * 5 + 2, none⟩) hKb).trans g2
      have c3 := (HB.out.cell (p := ⟨b, o + j * 5 + 3, none⟩) hKb).trans g3
      have c4 := (HB.out.cell (p := ⟨b, o + j * 5 + 4, none⟩) hKb).trans g4
      clear g0 g1 g2 g3 g4
      obtain ⟨fn, tmps, assign, body, hy, hR⟩ := hY _ ⟨j, hjN⟩ _ hJs (by rw [down_len]; omega)
      simp only at hy
      clear hb hV hVe
      gi_wp2
      refine hR.mono ?_
      rintro e W3 (⟨rfl, hJ3, hk3⟩ | ⟨rfl, hJx3⟩)
      · gi_wp2
        go_roundw
        case rel => exact ⟨j, by omega, by go_num, by rw [down_step hjN]; exact hJ3, HB.out.trans hk3⟩
        case measure => simp [intOf]
      · gi_wp2
        refine bodyPost_ret (results_none rfl _ _ _) rfl ?_
        exact ⟨⟨_, rfl⟩, .inr ⟨_, by rw [← down_step hjN]; exact down_pre _ _, hJx3⟩⟩
theorem backE_in (n : Nat) (a : Option Addr) (len cap : Nat) (w : World) :
    CallsIn Fence.wide n Tryz.prog 197 #[.slice a len cap] w fun e w' => e = .returned (.func (.func 242) #[] #[.pointer (some ⟨w.heap.size, 0, none⟩)]) ∧
      w' = w.alloc (.cells #[.slice a len cap] 33) := by
  refine callsIn_of_wp Tryz.func197 rfl trivial ?_ rfl
  simp only [Tryz.ntmps197, List.size_toArray, List.length_cons, List.length_nil, Nat.reduceAdd, Nat.reduceSub, Array.replicate_succ, Array.replicate_zero, List.push_toArray, List.append_toArray, List.nil_append, List.cons_append]
  gi_wp2
  go_ret
  exact ⟨rfl, rfl⟩
theorem backE_stops (n : Nat) (hn : 1 ≤ n) (Bp : Nat) (K : Nat → Prop) (a : Option Addr) (len cap : Nat) (u0 u1 u2 u3 u4 : Nat → Value) (w : World)
    (hKB : K Bp) (hp0 : w.cell? ⟨Bp, 0, none⟩ = some (.slice a len cap)) (hs : 1 ≤ len → ∃ b o, a = some ⟨b, o, none⟩) (hroom : len ≤ cap) (hbig : cap ≤ maxLen) (hKs : ∀ k, K k → k < w.heap.size)
    (hV : LieE K w a len u0 u1 u2 u3 u4) :
    SeqStopsK Fence.wide n Tryz.prog 242 #[.pointer (some ⟨Bp, 0, none⟩)] (fun x : Fin len => #[Value.int .i64 (x.1 : Nat), .agg #[u0 x.1, u1 x.1, u2 x.1, u3 x.1, u4 x.1]]) (KeepS K) (fun ys => ys = downTo len 0) (fun pre => pre <+: downTo len 0) len w :=
  fun l J Jx W hW _ _ hY h0 => backE1_in n l Bp K hn a len cap u0 u1 u2 u3 u4 J Jx W hY hKB (cell_later hW hp0) hs hroom hbig (fun k hk => Nat.lt_of_lt_of_le (hKs k hk) hW.size) (fun b o e h1 => ⟨(hV b o e h1).1, fun i hi => by obtain ⟨g0, g1, g2, g3, g4⟩ := (hV b o e h1).2 i hi; exact ⟨cell_later hW g0, cell_later hW g1, cell_later hW g2, cell_later hW g3, cell_later hW g4⟩⟩) h0
end Go.Proofs.YtapjkbpfhmbfaaaGreatDoor
