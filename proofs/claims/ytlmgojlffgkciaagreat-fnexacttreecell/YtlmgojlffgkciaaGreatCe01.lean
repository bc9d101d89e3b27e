/-
  What a call leaves as it was, cell by cell; no statement of the program stands here.
  The laws' own helpers over one entry (size, copy), by walks of their Go text; and how an entry that came in is opened.
  How a list of entries lies in memory; what that keeps; and how one that came in is opened.
  How a run that came in is opened.
  How a list of numbers lies in memory, what that keeps, and how one that came in is opened.
-/
import Derived.WalkKit
import Derived.WalkSpells
import Derived.WalkLawsBesides
import Derived.Test.YtlmgojlffgkciaaGreatProg
import Derived.Test.YtlmgojlffgkciaaGreatCe00
import Derived.ProofKit
import Derived.Lib.SmallJoins
import Derived.Deep.Slices
import Derived.Deep.Strs
import Derived.Deep.SlicePairs
import Derived.OpenShut
namespace Go.Proofs.YtlmgojlffgkciaaGreat
open Go.RowKit
theorem bcell {W w1 : World} (hb : Below W.heap.size W w1) : (∀ b o, b < W.heap.size → w1.cell? ⟨b, o, none⟩ = W.cell? ⟨b, o, none⟩) ∧ (∀ b o, b < W.heap.size → w1.frozen? ⟨b, o, none⟩ = W.frozen? ⟨b, o, none⟩) :=
  ⟨fun b o h => hb.cell (p := ⟨b, o, none⟩) h, fun b o h => hb.frozen (p := ⟨b, o, none⟩) h⟩
end Go.Proofs.YtlmgojlffgkciaaGreat

namespace Go.Proofs.YtlmgojlffgkciaaGreat
open Go.RowKit Go.Joins Go.ChangeShapes Go.WideShapes Go.Deep
theorem Tryz.cellsEntL : Tryz.prog.cellsOf 77 = 5 := by kernel_rfl
def EntW (e : EntD) : Prop := e.1.size ≤ maxLen ∧ (Lit.int .i64 e.2.1).wf = true ∧ (Lit.int .i64 e.2.2.1).wf = true ∧ e.2.2.2.1.size ≤ maxLen ∧ (Lit.int .i64 e.2.2.2.2).wf = true
set_option maxHeartbeats 400000 in
theorem szEnt_no (k t : ByteArray) (q d n left : Int) (w : World) (hk : k.size ≤ maxLen) (ht : t.size ≤ maxLen) (h0 : 0 ≤ left) (h1 : left ≤ 1048576) (h : left < k.size + t.size) :
    Calls Tryz.prog 55 #[.agg #[.string k, .int .i64 q, .int .i64 d, .string t, .int .i64 n], .int .i64 left] w fun e w' => e = .returned (.int .i64 (-1)) ∧ Below w.heap.size w w' := by
  unfold maxLen at hk ht
  by_cases hc : left < k.size
  · go_enter Tryz.func55, Tryz.ntmps55
    go_wp2
    go_ret
    exact ⟨rfl, (Below.refl _ _).alloc (Nat.le_refl _) _⟩
  · go_enter Tryz.func55, Tryz.ntmps55
    go_wp2
    go_ret
    exact ⟨rfl, (Below.refl _ _).alloc (Nat.le_refl _) _⟩
set_option maxHeartbeats 400000 in
theorem szEnt_yes (k t : ByteArray) (q d n left : Int) (w : World) (h1 : left ≤ 1048576) (h : (k.size : Int) + t.size ≤ left) :
    Calls Tryz.prog 55 #[.agg #[.string k, .int .i64 q, .int .i64 d, .string t, .int .i64 n], .int .i64 left] w fun e w' => e = .returned (.int .i64 (left - k.size - t.size)) ∧ Below w.heap.size w w' := by
  go_enter Tryz.func55, Tryz.ntmps55
  go_wp2
  go_ret
  exact ⟨rfl, (Below.refl _ _).alloc (Nat.le_refl _) _⟩
set_option maxHeartbeats 400000 in
theorem toEnt_any (k t : ByteArray) (q d n : Int) (w : World) :
    Calls Tryz.prog 57 #[.agg #[.string k, .int .i64 q, .int .i64 d, .string t, .int .i64 n]] w fun e w' => e = .returned (.agg #[.string k, .int .i64 q, .int .i64 d, .string t, .int .i64 n]) ∧ Below w.heap.size w w' := by
  go_enter Tryz.func57, Tryz.ntmps57
  go_wp2
  refine bodyPost_ret (v := .agg #[.string k, .int .i64 q, .int .i64 d, .string t, .int .i64 n]) (by simp [results, Tryz.results57, go_sem]) rfl ⟨rfl, ?_⟩
  exact (((Below.refl _ _).alloc (Nat.le_refl _) _).alloc (by simp) _).alloc (by simp; omega) _
end Go.Proofs.YtlmgojlffgkciaaGreat

namespace Go.Proofs.YtlmgojlffgkciaaGreat
set_option maxRecDepth 100000
open Go.RowKit Go.Joins Go.ChangeShapes Go.WideShapes
def EntCells (w : World) (b o : Nat) (e : EntD) : Prop := w.cell? ⟨b, o, none⟩ = some (.string e.1) ∧ w.cell? ⟨b, o + 1, none⟩ = some (.int .i64 e.2.1) ∧ w.cell? ⟨b, o + 2, none⟩ = some (.int .i64 e.2.2.1) ∧ w.cell? ⟨b, o + 3, none⟩ = some (.string e.2.2.2.1) ∧ w.cell? ⟨b, o + 4, none⟩ = some (.int .i64 e.2.2.2.2)
theorem EntCells.moved {w w' : World} {b o : Nat} {e : EntD} (h : EntCells w b o e) (hc : ∀ o, w'.cell? ⟨b, o, none⟩ = w.cell? ⟨b, o, none⟩) : EntCells w' b o e :=
  ⟨(hc _).trans h.1, (hc _).trans h.2.1, (hc _).trans h.2.2.1, (hc _).trans h.2.2.2.1, (hc _).trans h.2.2.2.2⟩
structure EntsAt (w : World) (a : Option Addr) (len cap : Nat) (L : List EntD) : Prop where
  length : L.length = len
  room : len ≤ cap
  big : cap ≤ maxLen
  ents : ∀ e ∈ L, EntW e
  nil : a = none → len = 0
  lies : ∀ x, a = some x → 0 < len → x.block < w.heap.size ∧ x.spot = none
  cells : ∀ x, a = some x → ∀ i (h : i < L.length), EntCells w x.block (x.off + i * 5) L[i]
theorem EntsAt.moved {w w' : World} {a : Option Addr} {len cap : Nat} {L : List EntD} (h : EntsAt w a len cap L) (hs : w.heap.size ≤ w'.heap.size) (hc : ∀ x, a = some x → 0 < len → ∀ o, w'.cell? ⟨x.block, o, none⟩ = w.cell? ⟨x.block, o, none⟩) : EntsAt w' a len cap L where
  length := h.length
  room := h.room
  big := h.big
  ents := h.ents
  nil := h.nil
  lies := fun x e hp => ⟨Nat.lt_of_lt_of_le (h.lies x e hp).1 hs, (h.lies x e hp).2⟩
  cells := fun x e i hi => (h.cells x e i hi).moved (hc x e (by have := h.length; omega))
theorem EntsAt.below {B : Nat} {w w' : World} {a : Option Addr} {len cap : Nat} {L : List EntD} (h : EntsAt w a len cap L) (hb : Below B w w') (hB : ∀ x, a = some x → 0 < len → x.block < B) : EntsAt w' a len cap L :=
  h.moved hb.size (fun x e hp o => hb.cell (p := ⟨x.block, o, none⟩) (hB x e hp))
theorem EntsAt.keep {w w' : World} {a : Option Addr} {len cap : Nat} {L : List EntD} (h : EntsAt w a len cap L) (hb : Below w.heap.size w w') : EntsAt w' a len cap L := h.below hb (fun x e hp => (h.lies x e hp).1)
theorem EntsAt.setCell {w : World} {a : Option Addr} {len cap : Nat} {L : List EntD} (h : EntsAt w a len cap L) (p : Addr) (u : Value) (hp : ∀ x, a = some x → 0 < len → x.block ≠ p.block) : EntsAt (w.setCell p u) a len cap L :=
  h.moved (by simp [World.setCell]) (fun x e hl o => World.cell?_of_block (by rw [Below.heap_setCell _ _ _ _ (hp x e hl)]))
theorem EntsAt.ent {B : Nat} {w wr : World} {b off len cap : Nat} {L : List EntD} (h : EntsAt w (some ⟨b, off, none⟩) len cap L) (hb : Below B w wr) (hB : b < B) (k : Nat) (hk : k < len) :
    ∃ s q d t n, L[k]? = some (s, q, d, t, n) ∧ EntW (s, q, d, t, n) ∧ wr.cell? ⟨b, off + k * 5, none⟩ = some (.string s) ∧ wr.cell? ⟨b, off + k * 5 + 1, none⟩ = some (.int .i64 q) ∧ wr.cell? ⟨b, off + k * 5 + 2, none⟩ = some (.int .i64 d) ∧ wr.cell? ⟨b, off + k * 5 + 3, none⟩ = some (.string t) ∧ wr.cell? ⟨b, off + k * 5 + 4, none⟩ = some (.int .i64 n) := by
  have hk' : k < L.length := by rw [h.length]; exact hk
  obtain ⟨c0, c1, c2, c3, c4⟩ := (h.cells _ rfl k hk').moved (fun o => hb.cell (p := ⟨b, o, none⟩) hB)
  exact ⟨L[k].1, L[k].2.1, L[k].2.2.1, L[k].2.2.2.1, L[k].2.2.2.2, List.getElem?_eq_getElem hk', h.ents _ (List.getElem_mem hk'), c0, c1, c2, c3, c4⟩
theorem EntsAt.form {w : World} {a : Option Addr} {len cap : Nat} {L : List EntD} (h : EntsAt w a len cap L) (hl : 1 ≤ len) : ∃ b off, a = some ⟨b, off, none⟩ ∧ b < w.heap.size := by
  cases a with
  | none => have := h.nil rfl; omega
  | some x =>
    obtain ⟨b, off, spot⟩ := x
    obtain ⟨h1, h2⟩ := h.lies _ rfl (by omega)
    simp only at h1 h2
    subst h2
    exact ⟨b, off, rfl, h1⟩
theorem trod_struct5 {H : Type} {enc : TypeId × Value → H} {P : Program} {w : World} {base : Nat} {spare : Nat → Bool} {held : Bool} {t : TypeId} {f0 f1 f2 f3 f4 : Field} {fuel : Nat} {cs : List Value} {x : DataW H × List MemPlace} (ht : P.underlying t = some (.struct #[f0, f1, f2, f3, f4])) (h : DataW.trod enc P w base spare held fuel t cs = some x) :
    ∃ y0 y1 y2 y3 y4 n, DataW.trod enc P w base spare held n f0.type ((cs.drop f0.offset).take (P.cellsOf f0.type)) = some y0 ∧ DataW.trod enc P w base spare held n f1.type ((cs.drop f1.offset).take (P.cellsOf f1.type)) = some y1 ∧ DataW.trod enc P w base spare held n f2.type ((cs.drop f2.offset).take (P.cellsOf f2.type)) = some y2 ∧ DataW.trod enc P w base spare held n f3.type ((cs.drop f3.offset).take (P.cellsOf f3.type)) = some y3 ∧ DataW.trod enc P w base spare held n f4.type ((cs.drop f4.offset).take (P.cellsOf f4.type)) = some y4 := by
  obtain ⟨xs, n, _, rfl, hl, hlen, hf⟩ := DataW.trod_struct ht h
  match xs, hlen with
  | [y0, y1, y2, y3, y4], _ => exact ⟨y0, y1, y2, y3, y4, n, by simpa using hf 0 f0 rfl, by simpa using hf 1 f1 rfl, by simpa using hf 2 f2 rfl, by simpa using hf 3 f3 rfl, by simpa using hf 4 f4 rfl⟩
theorem open_ents {H : Type} {enc : TypeId × Value → H} {W : World} {base fuel : Nat} {v : Value} {x : DataW H × List MemPlace} {held : Bool} (hy1 : DataW.trod enc Tryz.prog W base (fun _ => true) held fuel 22 [v] = some x) :
    ∃ (a : Option Addr) (len cap : Nat) (L : List EntD), v = .slice a len cap ∧ EntsAt W a len cap L := by
  rcases Deep.open_slice Tryz.underlying22 hy1 with ⟨hcs, _⟩ | ⟨a, len, cap, mm, n, D, Pl, hcs, hb, hl, hm, hmm, _, hx⟩
  · simp at hcs
    subst hcs
    exact ⟨none, 0, 0, [], rfl, ⟨rfl, Nat.le_refl _, Nat.zero_le _, by simp, fun _ => rfl, (fun x e => by cases e), (fun x e => by cases e)⟩⟩
  · simp at hcs
    subst hcs
    simp at hmm
    rw [Tryz.cellsEntL] at hx
    have each : ∀ i, i < mm → ∃ l : EntD, EntW l ∧ W.cell? (a.add (i * 5)) = some (.string l.1) ∧ W.cell? (a.add (i * 5 + 1)) = some (.int .i64 l.2.1) ∧ W.cell? (a.add (i * 5 + 2)) = some (.int .i64 l.2.2.1) ∧ W.cell? (a.add (i * 5 + 3)) = some (.string l.2.2.2.1) ∧ W.cell? (a.add (i * 5 + 4)) = some (.int .i64 l.2.2.2.2) := by
      intro i hi
      obtain ⟨cs', g1, g2⟩ := hx i hi
      obtain ⟨_, hlen, hcell⟩ := World.cells?_some g1
      obtain ⟨z0, z1, z2, z3, z4, n', t0, t1, t2, t3, t4⟩ := trod_struct5 Tryz.underlying77 g2
      match cs', hlen with
      | [u0, u1, u2, u3, u4], _ =>
        have k0 := hcell 0 (by omega)
        have k1 := hcell 1 (by omega)
        have k2 := hcell 2 (by omega)
        have k3 := hcell 3 (by omega)
        have k4 := hcell 4 (by omega)
        rw [Deep.add_add] at k0 k1 k2 k3 k4
        obtain ⟨s, q0, _, ws⟩ := DataW.trod_string Tryz.underlying9 t0
        obtain ⟨q, q1, _, wq⟩ := DataW.trod_int Tryz.underlying3 t1
        obtain ⟨d, q2, _, wd⟩ := DataW.trod_int Tryz.underlying3 t2
        obtain ⟨t, q3, _, wt⟩ := DataW.trod_string Tryz.underlying9 t3
        obtain ⟨nn, q4, _, wn⟩ := DataW.trod_int Tryz.underlying3 t4
        have r3 : Tryz.prog.cellsOf 9 = 1 := by kernel_rfl
        have r4 : Tryz.prog.cellsOf 3 = 1 := by kernel_rfl
        simp [r3, r4] at q0 q1 q2 q3 q4
        subst q0 q1 q2 q3 q4
        exact ⟨(s, q, d, t, nn), ⟨ws, wq, wd, wt, wn⟩, by simpa using k0, by simpa using k1, by simpa using k2, by simpa using k3, by simpa using k4⟩
    obtain ⟨f, hf⟩ := Deep.choose_lt each
    have spot : 0 < len → a.spot = none := fun hp => by
      have := (hf 0 (by omega)).2.1
      simpa [Addr.add] using World.cell?_spot this
    have plain : 0 < len → ∀ j, a.add j = ⟨a.block, a.off + j, none⟩ := fun hp j => by
      have := spot hp
      obtain ⟨b, o, sp⟩ := a
      simp only at this
      subst this
      exact add_plain _ _ _
    refine ⟨some a, len, cap, (List.range len).map f, rfl, ⟨by simp, hl, hm, ?_, (fun e => by cases e), ?_, ?_⟩⟩
    · intro l hl'
      obtain ⟨i, hi, rfl⟩ := List.mem_map.1 hl'
      exact (hf i (by have := List.mem_range.1 hi; omega)).1
    · rintro x e hp
      cases e
      refine ⟨?_, spot hp⟩
      obtain ⟨cs', g1, _⟩ := hx 0 (by omega)
      have := World.cells?_block g1 (by omega)
      simpa [Addr.add] using this
    · rintro x e i hi
      cases e
      simp at hi
      obtain ⟨_, g0, g1, g2, g3, g4⟩ := hf i (by omega)
      rw [plain (by omega)] at g0 g1 g2 g3 g4
      simp only [List.getElem_map, List.getElem_range]
      exact ⟨g0, by simpa [Nat.add_assoc] using g1, by simpa [Nat.add_assoc] using g2, by simpa [Nat.add_assoc] using g3, by simpa [Nat.add_assoc] using g4⟩
end Go.Proofs.YtlmgojlffgkciaaGreat

namespace Go.Proofs.YtlmgojlffgkciaaGreat
open Go.RowKit Go.Joins Go.ChangeShapes Go.WideShapes
theorem Tryz.cellsRunL : Tryz.prog.cellsOf 144 = 2 := by kernel_rfl
end Go.Proofs.YtlmgojlffgkciaaGreat

namespace Go.Proofs.YtlmgojlffgkciaaGreat
set_option maxRecDepth 100000
open Go.RowKit Go.Joins Go.ChangeShapes Go.WideShapes
theorem Tryz.infoInt : (Tryz.prog.info? 3).map (fun i => (i.zero, i.size, i.bytes)) = some (some (.int .i64 0), 1, 8) := by kernel_rfl
def Same (lo : Nat) (w w' : World) : Prop := w.heap.size ≤ w'.heap.size ∧ ∀ b o, lo ≤ b → b < w.heap.size → w'.cell? ⟨b, o, none⟩ = w.cell? ⟨b, o, none⟩
theorem Same.of_below {lo : Nat} {w w' : World} (hb : Below w.heap.size w w') : Same lo w w' := ⟨hb.size, fun b o _ h => hb.cell (p := ⟨b, o, none⟩) h⟩
theorem Same.of_set {lo : Nat} {w : World} (p : Addr) (u : Value) (h : p.block < lo) : Same lo w (w.setCell p u) :=
  ⟨by simp [World.setCell], fun b o hb _ => World.cell?_of_block (by rw [Below.heap_setCell _ _ _ _ (by simp only; omega)])⟩
theorem Same.trans {lo : Nat} {w w' w'' : World} (h : Same lo w w') (h' : Same lo w' w'') : Same lo w w'' :=
  ⟨Nat.le_trans h.1 h'.1, fun b o hb hl => (h'.2 b o hb (Nat.lt_of_lt_of_le hl h.1)).trans (h.2 b o hb hl)⟩
structure IntsIn (lo : Nat) (w : World) (a : Option Addr) (len cap : Nat) (S : List Int) : Prop where
  length : S.length = len
  room : len ≤ cap
  big : cap ≤ maxLen
  wfs : ∀ q ∈ S, (Lit.int .i64 q).wf = true
  nil : a = none → len = 0
  lies : ∀ x, a = some x → 0 < len → x.block < w.heap.size ∧ x.spot = none ∧ lo ≤ x.block
  cells : ∀ x, a = some x → ∀ i (h : i < S.length), w.cell? ⟨x.block, x.off + i, none⟩ = some (.int .i64 S[i])
theorem IntsIn.same {lo : Nat} {w w' : World} {a : Option Addr} {len cap : Nat} {S : List Int} (h : IntsIn lo w a len cap S) (hs : Same lo w w') : IntsIn lo w' a len cap S where
  length := h.length
  room := h.room
  big := h.big
  wfs := h.wfs
  nil := h.nil
  lies := fun x e hp => ⟨Nat.lt_of_lt_of_le (h.lies x e hp).1 hs.1, (h.lies x e hp).2⟩
  cells := fun x e i hi => by
    obtain ⟨hx, _, hlo⟩ := h.lies x e (by have := h.length; omega)
    exact (hs.2 _ _ hlo hx).trans (h.cells x e i hi)
theorem IntsIn.keep {lo : Nat} {w w' : World} {a : Option Addr} {len cap : Nat} {S : List Int} (h : IntsIn lo w a len cap S) (hb : Below w.heap.size w w') : IntsIn lo w' a len cap S := h.same (Same.of_below hb)
theorem IntsIn.lower {lo lo' : Nat} {w : World} {a : Option Addr} {len cap : Nat} {S : List Int} (h : IntsIn lo w a len cap S) (hl : lo' ≤ lo) : IntsIn lo' w a len cap S :=
  ⟨h.length, h.room, h.big, h.wfs, h.nil, fun x e hp => ⟨(h.lies x e hp).1, (h.lies x e hp).2.1, Nat.le_trans hl (h.lies x e hp).2.2⟩, h.cells⟩
theorem IntsIn.form {lo : Nat} {w : World} {a : Option Addr} {len cap : Nat} {S : List Int} (h : IntsIn lo w a len cap S) (hl : 1 ≤ len) : ∃ b off, a = some ⟨b, off, none⟩ ∧ b < w.heap.size := by
  cases a with
  | none => have := h.nil rfl; omega
  | some x =>
    obtain ⟨b, off, spot⟩ := x
    obtain ⟨h1, h2, _⟩ := h.lies _ rfl (by omega)
    simp only at h1 h2
    subst h2
    exact ⟨b, off, rfl, h1⟩
theorem IntsIn.num {lo : Nat} {w wr : World} {b off len cap : Nat} {S : List Int} (h : IntsIn lo w (some ⟨b, off, none⟩) len cap S) (hb : Below w.heap.size w wr) (k : Nat) (hk : k < len) :
    ∃ q, S[k]? = some q ∧ (Lit.int .i64 q).wf = true ∧ wr.cell? ⟨b, off + k, none⟩ = some (.int .i64 q) := by
  have hk' : k < S.length := by rw [h.length]; exact hk
  exact ⟨S[k], List.getElem?_eq_getElem hk', h.wfs _ (List.getElem_mem hk'), (h.keep hb).cells _ rfl k hk'⟩
theorem plain_at {a : Addr} (h : a.spot = none) (j : Nat) : a.add j = ⟨a.block, a.off + j, none⟩ := by
  obtain ⟨b, o, sp⟩ := a
  simp only at h
  subst h
  exact add_plain _ _ _
theorem open_ints {H : Type} {enc : TypeId × Value → H} {W : World} {base n0 : Nat} {v : Value} {x : DataW H × List MemPlace} {held : Bool}
    (hf : DataW.trod enc Tryz.prog W base (fun _ => true) held n0 24 [v] = some x) :
    ∃ (a : Option Addr) (len cap : Nat) (S : List Int), v = .slice a len cap ∧ IntsIn 0 W a len cap S := by
  have r5 : Tryz.prog.cellsOf 3 = 1 := by kernel_rfl
  rcases Deep.open_slice Tryz.underlying24 hf with ⟨hcs, _⟩ | ⟨a, len, cap, mm, n, D, Pl, hcs, hb, hl, hm, hmm, _, hx⟩
  · simp at hcs
    subst hcs
    exact ⟨none, 0, 0, [], rfl, ⟨rfl, Nat.le_refl _, Nat.zero_le _, by simp, fun _ => rfl, (fun x e => by cases e), (fun x e => by cases e)⟩⟩
  · simp at hcs
    subst hcs
    simp at hmm
    rw [r5] at hx
    have each : ∀ i, i < mm → ∃ q : Int, (Lit.int .i64 q).wf = true ∧ W.cell? (a.add i) = some (.int .i64 q) := by
      intro i hi
      obtain ⟨cs', g1, g2⟩ := hx i hi
      obtain ⟨_, hlen, hcell⟩ := World.cells?_some g1
      match cs', hlen with
      | [u0], _ =>
        have k0 := hcell 0 (by omega)
        rw [Deep.add_add] at k0
        obtain ⟨q, e0, _, wq⟩ := DataW.trod_int Tryz.underlying3 g2
        simp at e0
        subst e0
        exact ⟨q, wq, by simpa using k0⟩
    obtain ⟨f, hf'⟩ := Deep.choose_lt each
    have spot : 0 < len → a.spot = none := fun hp => by
      obtain ⟨_, c0⟩ := hf' 0 (by omega)
      simpa [Addr.add] using World.cell?_spot c0
    refine ⟨some a, len, cap, (List.range len).map f, rfl, ⟨by simp, hl, hm, ?_, (fun e => by cases e), ?_, ?_⟩⟩
    · intro q hq
      obtain ⟨i, hi, rfl⟩ := List.mem_map.1 hq
      exact (hf' i (by have := List.mem_range.1 hi; omega)).1
    · rintro x e hp
      cases e
      refine ⟨?_, spot hp, Nat.zero_le _⟩
      obtain ⟨_, c0⟩ := hf' 0 (by omega)
      have := World.block_lt_of_cell? _ _ c0
      simpa [Addr.add] using this
    · rintro x e i hi
      cases e
      simp at hi
      obtain ⟨_, g0⟩ := hf' i (by omega)
      rw [plain_at (spot (by omega))] at g0
      simp only [List.getElem_map, List.getElem_range]
      exact g0
end Go.Proofs.YtlmgojlffgkciaaGreat
