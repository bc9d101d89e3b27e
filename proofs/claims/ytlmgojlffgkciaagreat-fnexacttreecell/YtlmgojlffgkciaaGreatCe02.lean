/-
  How a list of runs and a list of levels lie in memory; what that keeps; and how those that came in are opened.
  Plain: when times that are kept are right, and when entries are within a time; no statement of the program stands here.
-/
import Derived.Deep.SlicePairs
import Derived.OpenShut
import Derived.Test.YtlmgojlffgkciaaGreatCe01
import Derived.Test.YtlmgojlffgkciaaGreatCe00
namespace Go.Proofs.YtlmgojlffgkciaaGreat
set_option maxRecDepth 100000
open Go.RowKit Go.Joins Go.ChangeShapes Go.WideShapes
abbrev RunD := List EntD × Int
def EntsIn (lo : Nat) (w : World) (a : Option Addr) (len cap : Nat) (L : List EntD) : Prop := EntsAt w a len cap L ∧ ∀ x, a = some x → 0 < len → lo ≤ x.block
theorem EntsIn.same {lo : Nat} {w w' : World} {a : Option Addr} {len cap : Nat} {L : List EntD} (h : EntsIn lo w a len cap L) (hs : Same lo w w') : EntsIn lo w' a len cap L :=
  ⟨h.1.moved hs.1 (fun x e hp _ => hs.2 _ _ (h.2 x e hp) (h.1.lies x e hp).1), h.2⟩
theorem EntsIn.mono {lo lo' : Nat} {w : World} {a : Option Addr} {len cap : Nat} {L : List EntD} (h : EntsIn lo w a len cap L) (hl : lo' ≤ lo) : EntsIn lo' w a len cap L := ⟨h.1, fun x e hp => Nat.le_trans hl (h.2 x e hp)⟩
structure RunsIn (lo : Nat) (w : World) (a : Option Addr) (len cap : Nat) (B : List RunD) : Prop where
  length : B.length = len
  room : len ≤ cap
  big : cap ≤ maxLen
  nil : a = none → len = 0
  lies : ∀ x, a = some x → 0 < len → x.block < w.heap.size ∧ x.spot = none ∧ lo ≤ x.block
  runs : ∀ x, a = some x → ∀ i (h : i < B.length), (Lit.int .i64 B[i].2).wf = true ∧ ∃ s n c, w.cell? ⟨x.block, x.off + i * 2, none⟩ = some (.slice s n c) ∧ w.cell? ⟨x.block, x.off + i * 2 + 1, none⟩ = some (.int .i64 B[i].2) ∧ EntsIn lo w s n c B[i].1
theorem RunsIn.same {lo : Nat} {w w' : World} {a : Option Addr} {len cap : Nat} {B : List RunD} (h : RunsIn lo w a len cap B) (hs : Same lo w w') : RunsIn lo w' a len cap B where
  length := h.length
  room := h.room
  big := h.big
  nil := h.nil
  lies := fun x e hp => ⟨Nat.lt_of_lt_of_le (h.lies x e hp).1 hs.1, (h.lies x e hp).2⟩
  runs := fun x e i hi => by
    obtain ⟨hx, _, hlo⟩ := h.lies x e (by have := h.length; omega)
    obtain ⟨hw, s, n, c, c0, c1, hL⟩ := h.runs x e i hi
    exact ⟨hw, s, n, c, (hs.2 _ _ hlo hx).trans c0, (hs.2 _ _ hlo hx).trans c1, hL.same hs⟩
theorem RunsIn.keep {lo : Nat} {w w' : World} {a : Option Addr} {len cap : Nat} {B : List RunD} (h : RunsIn lo w a len cap B) (hb : Below w.heap.size w w') : RunsIn lo w' a len cap B := h.same (Same.of_below hb)
theorem RunsIn.mono {lo lo' : Nat} {w : World} {a : Option Addr} {len cap : Nat} {B : List RunD} (h : RunsIn lo w a len cap B) (hl : lo' ≤ lo) : RunsIn lo' w a len cap B :=
  ⟨h.length, h.room, h.big, h.nil, fun x e hp => ⟨(h.lies x e hp).1, (h.lies x e hp).2.1, Nat.le_trans hl (h.lies x e hp).2.2⟩, fun x e i hi => by obtain ⟨hw, s, n, c, c0, c1, hL⟩ := h.runs x e i hi; exact ⟨hw, s, n, c, c0, c1, hL.mono hl⟩⟩
theorem RunsIn.form {lo : Nat} {w : World} {a : Option Addr} {len cap : Nat} {B : List RunD} (h : RunsIn lo w a len cap B) (hl : 1 ≤ len) : ∃ b off, a = some ⟨b, off, none⟩ ∧ b < w.heap.size := by
  cases a with
  | none => have := h.nil rfl; omega
  | some x =>
    obtain ⟨b, off, spot⟩ := x
    obtain ⟨h1, h2, _⟩ := h.lies _ rfl (by omega)
    simp only at h1 h2
    subst h2
    exact ⟨b, off, rfl, h1⟩
theorem RunsIn.run {lo : Nat} {w wr : World} {b off len cap : Nat} {B : List RunD} (h : RunsIn lo w (some ⟨b, off, none⟩) len cap B) (hb : Below w.heap.size w wr) (k : Nat) (hk : k < len) :
    ∃ L m s n c, B[k]? = some (L, m) ∧ (Lit.int .i64 m).wf = true ∧ wr.cell? ⟨b, off + k * 2, none⟩ = some (.slice s n c) ∧ wr.cell? ⟨b, off + k * 2 + 1, none⟩ = some (.int .i64 m) ∧ EntsIn lo wr s n c L := by
  have hk' : k < B.length := by rw [h.length]; exact hk
  obtain ⟨hw, s, n, c, c0, c1, hL⟩ := (h.keep hb).runs _ rfl k hk'
  exact ⟨B[k].1, B[k].2, s, n, c, List.getElem?_eq_getElem hk', hw, c0, c1, hL⟩
theorem RunsIn.wfs {lo : Nat} {w : World} {a : Option Addr} {len cap : Nat} {B : List RunD} (h : RunsIn lo w a len cap B) : ∀ p ∈ B, (Lit.int .i64 p.2).wf = true := by
  intro p hp
  obtain ⟨j, hj, rfl⟩ := List.getElem_of_mem hp
  obtain ⟨b, off, rfl, _⟩ := h.form (by have := h.length; omega)
  exact (h.runs _ rfl j hj).1
theorem runsIn_nil (lo : Nat) (w : World) : RunsIn lo w none 0 0 [] := ⟨rfl, Nat.le_refl _, Nat.zero_le _, fun _ => rfl, (fun x e => by cases e), (fun x e => by cases e)⟩
structure LevelsIn (lo : Nat) (w : World) (a : Option Addr) (len cap : Nat) (V : List (List RunD)) : Prop where
  length : V.length = len
  room : len ≤ cap
  big : cap ≤ maxLen
  nil : a = none → len = 0
  lies : ∀ x, a = some x → 0 < len → x.block < w.heap.size ∧ x.spot = none ∧ lo ≤ x.block
  levels : ∀ x, a = some x → ∀ i (h : i < V.length), ∃ s n c, w.cell? ⟨x.block, x.off + i, none⟩ = some (.slice s n c) ∧ RunsIn lo w s n c V[i]
theorem LevelsIn.same {lo : Nat} {w w' : World} {a : Option Addr} {len cap : Nat} {V : List (List RunD)} (h : LevelsIn lo w a len cap V) (hs : Same lo w w') : LevelsIn lo w' a len cap V where
  length := h.length
  room := h.room
  big := h.big
  nil := h.nil
  lies := fun x e hp => ⟨Nat.lt_of_lt_of_le (h.lies x e hp).1 hs.1, (h.lies x e hp).2⟩
  levels := fun x e i hi => by
    obtain ⟨hx, _, hlo⟩ := h.lies x e (by have := h.length; omega)
    obtain ⟨s, n, c, c0, hL⟩ := h.levels x e i hi
    exact ⟨s, n, c, (hs.2 _ _ hlo hx).trans c0, hL.same hs⟩
theorem LevelsIn.keep {lo : Nat} {w w' : World} {a : Option Addr} {len cap : Nat} {V : List (List RunD)} (h : LevelsIn lo w a len cap V) (hb : Below w.heap.size w w') : LevelsIn lo w' a len cap V := h.same (Same.of_below hb)
theorem LevelsIn.mono {lo lo' : Nat} {w : World} {a : Option Addr} {len cap : Nat} {V : List (List RunD)} (h : LevelsIn lo w a len cap V) (hl : lo' ≤ lo) : LevelsIn lo' w a len cap V :=
  ⟨h.length, h.room, h.big, h.nil, fun x e hp => ⟨(h.lies x e hp).1, (h.lies x e hp).2.1, Nat.le_trans hl (h.lies x e hp).2.2⟩, fun x e i hi => by obtain ⟨s, n, c, c0, hL⟩ := h.levels x e i hi; exact ⟨s, n, c, c0, hL.mono hl⟩⟩
theorem LevelsIn.form {lo : Nat} {w : World} {a : Option Addr} {len cap : Nat} {V : List (List RunD)} (h : LevelsIn lo w a len cap V) (hl : 1 ≤ len) : ∃ b off, a = some ⟨b, off, none⟩ ∧ b < w.heap.size := by
  cases a with
  | none => have := h.nil rfl; omega
  | some x =>
    obtain ⟨b, off, spot⟩ := x
    obtain ⟨h1, h2, _⟩ := h.lies _ rfl (by omega)
    simp only at h1 h2
    subst h2
    exact ⟨b, off, rfl, h1⟩
theorem LevelsIn.level {lo : Nat} {w wr : World} {b off len cap : Nat} {V : List (List RunD)} (h : LevelsIn lo w (some ⟨b, off, none⟩) len cap V) (hb : Below w.heap.size w wr) (k : Nat) (hk : k < len) :
    ∃ B s n c, V[k]? = some B ∧ wr.cell? ⟨b, off + k, none⟩ = some (.slice s n c) ∧ RunsIn lo wr s n c B := by
  have hk' : k < V.length := by rw [h.length]; exact hk
  obtain ⟨s, n, c, c0, hL⟩ := (h.keep hb).levels _ rfl k hk'
  exact ⟨V[k], s, n, c, List.getElem?_eq_getElem hk', c0, hL⟩
theorem open_runs {H : Type} {enc : TypeId × Value → H} {W : World} {base n0 : Nat} {v : Value} {x : DataW H × List MemPlace} {held : Bool}
    (hf : DataW.trod enc Tryz.prog W base (fun _ => true) held n0 89 [v] = some x) :
    ∃ (a : Option Addr) (len cap : Nat) (B : List RunD), v = .slice a len cap ∧ RunsIn 0 W a len cap B := by
  have r4 : Tryz.prog.cellsOf 3 = 1 := by kernel_rfl
  have r5 : Tryz.prog.cellsOf 22 = 1 := by kernel_rfl
  rcases Deep.open_slice_pairs Tryz.underlying89 Tryz.underlying144 Tryz.cellsRunL rfl rfl r5 r4 hf with ⟨hcs, _⟩ | ⟨a, len, cap, mm, n, V0, V1, D0, D1, P0, P1, hcs, hb, hl, hm, hmm, _, hx⟩
  · simp at hcs
    subst hcs
    exact ⟨none, 0, 0, [], rfl, runsIn_nil _ _⟩
  · simp at hcs
    subst hcs
    simp at hmm
    have each : ∀ i, i < mm → ∃ l : RunD, (Lit.int .i64 l.2).wf = true ∧ ∃ s n c, W.cell? (a.add (i * 2)) = some (.slice s n c) ∧ W.cell? (a.add (i * 2 + 1)) = some (.int .i64 l.2) ∧ EntsIn 0 W s n c l.1 := by
      intro i hi
      obtain ⟨c0, c1, t0, t1⟩ := hx i hi
      obtain ⟨id, e1, _, wid⟩ := DataW.trod_int Tryz.underlying3 t1
      obtain ⟨s, n, c, L, e0, hL⟩ := open_ents t0
      simp at e1
      rw [e0] at c0
      rw [e1] at c1
      exact ⟨(L, id), wid, s, n, c, c0, c1, hL, fun _ _ _ => Nat.zero_le _⟩
    obtain ⟨f, hf'⟩ := Deep.choose_lt each
    have spot : 0 < len → a.spot = none := fun hp => by
      obtain ⟨_, s, n, c, c0, _⟩ := hf' 0 (by omega)
      simpa [Addr.add] using World.cell?_spot c0
    refine ⟨some a, len, cap, (List.range len).map f, rfl, ⟨by simp, hl, hm, (fun e => by cases e), ?_, ?_⟩⟩
    · rintro x e hp
      cases e
      refine ⟨?_, spot hp, Nat.zero_le _⟩
      obtain ⟨_, s, n, c, c0, _⟩ := hf' 0 (by omega)
      have := World.block_lt_of_cell? _ _ c0
      simpa [Addr.add] using this
    · rintro x e i hi
      cases e
      simp at hi
      obtain ⟨g, s, n, c, g0, g1, g2⟩ := hf' i (by omega)
      rw [plain_at (spot (by omega))] at g0 g1
      simp only [List.getElem_map, List.getElem_range]
      exact ⟨g, s, n, c, g0, by simpa [Nat.add_assoc] using g1, g2⟩
theorem open_levels {H : Type} {enc : TypeId × Value → H} {W : World} {base n0 : Nat} {v : Value} {x : DataW H × List MemPlace} {held : Bool}
    (hf : DataW.trod enc Tryz.prog W base (fun _ => true) held n0 23 [v] = some x) :
    ∃ (a : Option Addr) (len cap : Nat) (V : List (List RunD)), v = .slice a len cap ∧ LevelsIn 0 W a len cap V := by
  have r5 : Tryz.prog.cellsOf 89 = 1 := by kernel_rfl
  rcases Deep.open_slice Tryz.underlying23 hf with ⟨hcs, _⟩ | ⟨a, len, cap, mm, n, D, Pl, hcs, hb, hl, hm, hmm, _, hx⟩
  · simp at hcs
    subst hcs
    exact ⟨none, 0, 0, [], rfl, ⟨rfl, Nat.le_refl _, Nat.zero_le _, fun _ => rfl, (fun x e => by cases e), (fun x e => by cases e)⟩⟩
  · simp at hcs
    subst hcs
    simp at hmm
    rw [r5] at hx
    have each : ∀ i, i < mm → ∃ B : List RunD, ∃ s n c, W.cell? (a.add i) = some (.slice s n c) ∧ RunsIn 0 W s n c B := by
      intro i hi
      obtain ⟨cs', g1, g2⟩ := hx i hi
      obtain ⟨_, hlen, hcell⟩ := World.cells?_some g1
      match cs', hlen with
      | [u0], _ =>
        have k0 := hcell 0 (by omega)
        rw [Deep.add_add] at k0
        obtain ⟨s, n, c, B, e0, hB⟩ := open_runs g2
        subst e0
        exact ⟨B, s, n, c, by simpa using k0, hB⟩
    obtain ⟨f, hf'⟩ := Deep.choose_lt each
    have spot : 0 < len → a.spot = none := fun hp => by
      obtain ⟨s, n, c, c0, _⟩ := hf' 0 (by omega)
      simpa [Addr.add] using World.cell?_spot c0
    refine ⟨some a, len, cap, (List.range len).map f, rfl, ⟨by simp, hl, hm, (fun e => by cases e), ?_, ?_⟩⟩
    · rintro x e hp
      cases e
      refine ⟨?_, spot hp, Nat.zero_le _⟩
      obtain ⟨s, n, c, c0, _⟩ := hf' 0 (by omega)
      have := World.block_lt_of_cell? _ _ c0
      simpa [Addr.add] using this
    · rintro x e i hi
      cases e
      simp at hi
      obtain ⟨s, n, c, g0, g2⟩ := hf' i (by omega)
      rw [plain_at (spot (by omega))] at g0
      simp only [List.getElem_map, List.getElem_range]
      exact ⟨s, n, c, g0, g2⟩
structure TreeIn (lo : Nat) (w : World) (am : Option Addr) (nm cm : Nat) (av : Option Addr) (nv cv : Nat) (ak : Option Addr) (ns cs : Nat) (M : List EntD) (V : List (List RunD)) (S : List Int) : Prop where
  mem : EntsIn lo w am nm cm M
  levels : LevelsIn lo w av nv cv V
  snaps : IntsIn lo w ak ns cs S
theorem TreeIn.same {lo : Nat} {w w' : World} {am av ak : Option Addr} {nm cm nv cv ns cs : Nat} {M : List EntD} {V : List (List RunD)} {S : List Int} (h : TreeIn lo w am nm cm av nv cv ak ns cs M V S) (hs : Same lo w w') : TreeIn lo w' am nm cm av nv cv ak ns cs M V S := ⟨h.mem.same hs, h.levels.same hs, h.snaps.same hs⟩
theorem TreeIn.keep {lo : Nat} {w w' : World} {am av ak : Option Addr} {nm cm nv cv ns cs : Nat} {M : List EntD} {V : List (List RunD)} {S : List Int} (h : TreeIn lo w am nm cm av nv cv ak ns cs M V S) (hb : Below w.heap.size w w') : TreeIn lo w' am nm cm av nv cv ak ns cs M V S := h.same (Same.of_below hb)
theorem Tryz.cellsTreeL : Tryz.prog.cellsOf 26 = 4 := by kernel_rfl
theorem open_tree {H : Type} {enc : TypeId × Value → H} {W : World} {b0 base : Nat} {v : Value} {d : DataW H} {p : List MemPlace} {held : Bool}
    (hv : Value.okWide Tryz.prog W .any b0 26 v) (h : DataW.Trod enc Tryz.prog W base (fun _ => true) held 26 v d p) :
    ∃ (q : Int) (am : Option Addr) (nm cm : Nat) (av : Option Addr) (nv cv : Nat) (ak : Option Addr) (ns cs : Nat) (M : List EntD) (V : List (List RunD)) (S : List Int), v = .agg #[.int .i64 q, .slice am nm cm, .slice av nv cv, .slice ak ns cs] ∧ ((Lit.int .i64 q).wf = true ∧ TreeIn 0 W am nm cm av nv cv ak ns cs M V S) := by
  obtain ⟨c0, c1, c2, c3, y0, y1, y2, y3, m, rfl, _, _, hy0, hy1, hy2, hy3⟩ := open_agg4 Tryz.underlying26 (by kernel_rfl) Tryz.cellsTreeL hv h
  obtain ⟨q, e0, _, wid⟩ := DataW.trod_int Tryz.underlying3 hy0
  simp at e0
  subst e0
  obtain ⟨am, nm, cm, M, rfl, hM⟩ := open_ents hy1
  obtain ⟨av, nv, cv, V, rfl, hV⟩ := open_levels hy2
  obtain ⟨ak, ns, cs, S, rfl, hS⟩ := open_ints hy3
  exact ⟨q, am, nm, cm, av, nv, cv, ak, ns, cs, M, V, S, rfl, wid, ⟨hM, fun _ _ _ => Nat.zero_le _⟩, hV, hS⟩
end Go.Proofs.YtlmgojlffgkciaaGreat

namespace Go.Proofs.YtlmgojlffgkciaaGreat
open Go.RowKit
def withinB (M : List EntD) (q : Int) : Bool := M.all (fun e => decide (e.2.1 ≤ q))
theorem within_snoc {M : List EntD} {q : Int} {k : Nat} {e : EntD} (h : withinB (M.take k) q = true) (hk : M[k]? = some e) (he : e.2.1 ≤ q) : withinB (M.take (k + 1)) q = true := by
  unfold withinB at h ⊢
  rw [List.take_add_one, hk]
  simp only [Option.toList, List.all_append, h, List.all_cons, List.all_nil, Bool.and_true, Bool.true_and]
  exact decide_eq_true he
theorem within_no {M : List EntD} {q : Int} {k : Nat} {e : EntD} (hk : M[k]? = some e) (he : ¬ e.2.1 ≤ q) : withinB M q = false := by
  unfold withinB
  rw [Bool.eq_false_iff]
  intro h
  rw [List.all_eq_true] at h
  exact he (of_decide_eq_true (h e (List.mem_of_getElem? hk)))
def snapAt (S : List Int) (q : Int) (i : Nat) : Bool :=
  match S[i]? with
  | none => true
  | some s => decide (0 ≤ s) && (decide (s ≤ q) && (match i with | 0 => true | j + 1 => match S[j]? with | none => true | some p => decide (p < s)))
def SnapsTo (S : List Int) (q : Int) (k : Nat) : Prop := ∀ j, j < k → snapAt S q j = true
def snapsB (S : List Int) (q : Int) : Bool := decide (S.length ≤ 4) && (List.range S.length).all (snapAt S q)
theorem snaps_many {S : List Int} {q : Int} (h : 4 < S.length) : snapsB S q = false := by
  unfold snapsB
  rw [decide_eq_false (by omega)]
  rfl
theorem snaps_no {S : List Int} {q : Int} {k : Nat} (hk : k < S.length) (h : snapAt S q k = false) : snapsB S q = false := by
  unfold snapsB
  rw [Bool.and_eq_false_iff]
  right
  rw [Bool.eq_false_iff]
  intro h1
  rw [List.all_eq_true] at h1
  rw [h1 k (List.mem_range.2 hk)] at h
  cases h
theorem snaps_all {S : List Int} {q : Int} (h : SnapsTo S q S.length) : snapsB S q = decide (S.length ≤ 4) := by
  unfold snapsB
  have : (List.range S.length).all (snapAt S q) = true := by
    rw [List.all_eq_true]
    intro j hj
    exact h j (List.mem_range.1 hj)
  rw [this, Bool.and_true]
theorem snaps_snoc {S : List Int} {q : Int} {k : Nat} (h : SnapsTo S q k) (hk : snapAt S q k = true) : SnapsTo S q (k + 1) := by
  intro j hj
  by_cases e : j = k
  · subst e; exact hk
  · exact h j (by omega)
theorem snap_zero {S : List Int} {q s : Int} (h : S[0]? = some s) : snapAt S q 0 = (decide (0 ≤ s) && decide (s ≤ q)) := by
  unfold snapAt
  rw [h]
  simp
theorem snap_succ {S : List Int} {q s p : Int} {j : Nat} (h : S[j + 1]? = some s) (hp : S[j]? = some p) : snapAt S q (j + 1) = (decide (0 ≤ s) && (decide (s ≤ q) && decide (p < s))) := by
  unfold snapAt
  simp only [h, hp]
theorem snap_low {S : List Int} {q s : Int} {k : Nat} (h : S[k]? = some s) (hs : s < 0) : snapAt S q k = false := by
  unfold snapAt
  rw [h]
  simp only
  rw [decide_eq_false (by omega)]
  rfl
theorem snap_high {S : List Int} {q s : Int} {k : Nat} (h : S[k]? = some s) (hs : q < s) : snapAt S q k = false := by
  unfold snapAt
  rw [h]
  simp only
  rw [decide_eq_false (p := s ≤ q) (by omega)]
  simp
end Go.Proofs.YtlmgojlffgkciaaGreat
