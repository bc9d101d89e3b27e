/-
  How a list of entries lies in memory; what that keeps; and how one that came in is opened.
  The laws' own helpers over a list of entries (its size, its copy, that two are the same), by walks of their Go text.
  A list of entries in memory of the call's own; the laws' own copies of lists and runs, which lie so, by walks of their Go text.
  A list of entries of the call's own, or the nil list. No function of the program is walked here.
-/
import Derived.WalkKit
import Derived.WalkSpells
import Derived.WalkLawsBesides
import Derived.ProofKit
import Derived.Lib.SmallJoins
import Derived.Deep.Slices
import Derived.Deep.Strs
import Derived.Test.YtapjkbpfhmbfaaaGreatDoorProg
import Derived.Test.YtapjkbpfhmbfaaaGreatDoorSo01
import Derived.Deep.RegionWith
import Derived.Deep.LoopGhost
namespace Go.Proofs.YtapjkbpfhmbfaaaGreatDoor
set_option maxRecDepth 100000
open Go.RowKit Go.Joins Go.ChangeShapes Go.WideShapes
def EntCells (w : World) (b o : Nat) (e : EntD) : Prop := w.cell? ⟨b, o, none⟩ = some (.string e.1) ∧ w.cell? ⟨b, o + 1, none⟩ = some (.int .i64 e.2.1) ∧ w.cell? ⟨b, o + 2, none⟩ = some (.int .i64 e.2.2.1) ∧ w.cell? ⟨b, o + 3, none⟩ = some (.string e.2.2.2.1) ∧ w.cell? ⟨b, o + 4, none⟩ = some (.int .i64 e.2.2.2.2)
theorem EntCells.moved {w w' : World} {b o : Nat} {e : EntD} (h : EntCells w b o e) (hc : ∀ o, w'.cell? ⟨b, o, none⟩ = w.cell? ⟨b, o, none⟩) : EntCells w' b o e :=
  ⟨(hc _).trans h.1, (hc _).trans h.2.1, (hc _).trans h.2.2.1, (hc _).trans h.2.2.2.1, (hc _).trans h.2.2.2.2⟩
structure EntsAt (w : World) (a : Option Addr) (len cap : Nat) (L : List EntD) : Prop where
  length : L.length = len
  room : len ≤ cap
  big : cap ≤ maxLen
  ents : ∀ e ∈ L, EntW e
  nil : a = none → len = 0
  lies : ∀ x, a = some x → 0 < len → x.block < w.heap.size ∧ x.spot = none
  cells : ∀ x, a = some x → ∀ i (h : i < L.length), EntCells w x.block (x.off + i * 5) L[i]
theorem EntsAt.moved {w w' : World} {a : Option Addr} {len cap : Nat} {L : List EntD} (h : EntsAt w a len cap L) (hs : w.heap.size ≤ w'.heap.size) (hc : ∀ x, a = some x → 0 < len → ∀ o, w'.cell? ⟨x.block, o, none⟩ = w.cell? ⟨x.block, o, none⟩) : EntsAt w' a len cap L where
  length := h.length
  room := h.room
  big := h.big
  ents := h.ents
  nil := h.nil
  lies := fun x e hp => ⟨Nat.lt_of_lt_of_le (h.lies x e hp).1 hs, (h.lies x e hp).2⟩
  cells := fun x e i hi => (h.cells x e i hi).moved (hc x e (by have := h.length; omega))
theorem EntsAt.below {B : Nat} {w w' : World} {a : Option Addr} {len cap : Nat} {L : List EntD} (h : EntsAt w a len cap L) (hb : Below B w w') (hB : ∀ x, a = some x → 0 < len → x.block < B) : EntsAt w' a len cap L :=
  h.moved hb.size (fun x e hp o => hb.cell (p := ⟨x.block, o, none⟩) (hB x e hp))
theorem EntsAt.keep {w w' : World} {a : Option Addr} {len cap : Nat} {L : List EntD} (h : EntsAt w a len cap L) (hb : Below w.heap.size w w') : EntsAt w' a len cap L := h.below hb (fun x e hp => (h.lies x e hp).1)
theorem EntsAt.setCell {w : World} {a : Option Addr} {len cap : Nat} {L : List EntD} (h : EntsAt w a len cap L) (p : Addr) (u : Value) (hp : ∀ x, a = some x → 0 < len → x.block ≠ p.block) : EntsAt (w.setCell p u) a len cap L :=
  h.moved (by simp [World.setCell]) (fun x e hl o => World.cell?_of_block (by rw [Below.heap_setCell _ _ _ _ (hp x e hl)]))
theorem EntsAt.ent {B : Nat} {w wr : World} {b off len cap : Nat} {L : List EntD} (h : EntsAt w (some ⟨b, off, none⟩) len cap L) (hb : Below B w wr) (hB : b < B) (k : Nat) (hk : k < len) :
    ∃ s q d t n, L[k]? = some (s, q, d, t, n) ∧ EntW (s, q, d, t, n) ∧ wr.cell? ⟨b, off + k * 5, none⟩ = some (.string s) ∧ wr.cell? ⟨b, off + k * 5 + 1, none⟩ = some (.int .i64 q) ∧ wr.cell? ⟨b, off + k * 5 + 2, none⟩ = some (.int .i64 d) ∧ wr.cell? ⟨b, off + k * 5 + 3, none⟩ = some (.string t) ∧ wr.cell? ⟨b, off + k * 5 + 4, none⟩ = some (.int .i64 n) := by
  have hk' : k < L.length := by rw [h.length]; exact hk
  obtain ⟨c0, c1, c2, c3, c4⟩ := (h.cells _ rfl k hk').moved (fun o => hb.cell (p := ⟨b, o, none⟩) hB)
  exact ⟨L[k].1, L[k].2.1, L[k].2.2.1, L[k].2.2.2.1, L[k].2.2.2.2, List.getElem?_eq_getElem hk', h.ents _ (List.getElem_mem hk'), c0, c1, c2, c3, c4⟩
theorem EntsAt.form {w : World} {a : Option Addr} {len cap : Nat} {L : List EntD} (h : EntsAt w a len cap L) (hl : 1 ≤ len) : ∃ b off, a = some ⟨b, off, none⟩ ∧ b < w.heap.size := by
  cases a with
  | none => have := h.nil rfl; omega
  | some x =>
    obtain ⟨b, off, spot⟩ := x
    obtain ⟨h1, h2⟩ := h.lies _ rfl (by omega)
    simp only at h1 h2
    subst h2
    exact ⟨b, off, rfl, h1⟩
theorem trod_struct5 {H : Type} {enc : TypeId × Value → H} {P : Program} {w : World} {base : Nat} {spare : Nat → Bool} {held : Bool} {t : TypeId} {f0 f1 f2 f3 f4 : Field} {fuel : Nat} {cs : List Value} {x : DataW H × List MemPlace} (ht : P.underlying t = some (.struct #[f0, f1, f2, f3, f4])) (h : DataW.trod enc P w base spare held fuel t cs = some x) :
    ∃ y0 y1 y2 y3 y4 n, DataW.trod enc P w base spare held n f0.type ((cs.drop f0.offset).take (P.cellsOf f0.type)) = some y0 ∧ DataW.trod enc P w base spare held n f1.type ((cs.drop f1.offset).take (P.cellsOf f1.type)) = some y1 ∧ DataW.trod enc P w base spare held n f2.type ((cs.drop f2.offset).take (P.cellsOf f2.type)) = some y2 ∧ DataW.trod enc P w base spare held n f3.type ((cs.drop f3.offset).take (P.cellsOf f3.type)) = some y3 ∧ DataW.trod enc P w base spare held n f4.type ((cs.drop f4.offset).take (P.cellsOf f4.type)) = some y4 := by
  obtain ⟨xs, n, _, rfl, hl, hlen, hf⟩ := DataW.trod_struct ht h
  match xs, hlen with
  | [y0, y1, y2, y3, y4], _ => exact ⟨y0, y1, y2, y3, y4, n, by simpa using hf 0 f0 rfl, by simpa using hf 1 f1 rfl, by simpa using hf 2 f2 rfl, by simpa using hf 3 f3 rfl, by simpa using hf 4 f4 rfl⟩
theorem open_ents {H : Type} {enc : TypeId × Value → H} {W : World} {base fuel : Nat} {v : Value} {x : DataW H × List MemPlace} {held : Bool} (hy1 : DataW.trod enc Tryz.prog W base (fun _ => true) held fuel 22 [v] = some x) :
    ∃ (a : Option Addr) (len cap : Nat) (L : List EntD), v = .slice a len cap ∧ EntsAt W a len cap L := by
  rcases Deep.open_slice Tryz.underlying22 hy1 with ⟨hcs, _⟩ | ⟨a, len, cap, mm, n, D, Pl, hcs, hb, hl, hm, hmm, _, hx⟩
  · simp at hcs
    subst hcs
    exact ⟨none, 0, 0, [], rfl, ⟨rfl, Nat.le_refl _, Nat.zero_le _, by simp, fun _ => rfl, (fun x e => by cases e), (fun x e => by cases e)⟩⟩
  · simp at hcs
    subst hcs
    simp at hmm
    rw [Tryz.cellsEntL] at hx
    have each : ∀ i, i < mm → ∃ l : EntD, EntW l ∧ W.cell? (a.add (i * 5)) = some (.string l.1) ∧ W.cell? (a.add (i * 5 + 1)) = some (.int .i64 l.2.1) ∧ W.cell? (a.add (i * 5 + 2)) = some (.int .i64 l.2.2.1) ∧ W.cell? (a.add (i * 5 + 3)) = some (.string l.2.2.2.1) ∧ W.cell? (a.add (i * 5 + 4)) = some (.int .i64 l.2.2.2.2) := by
      intro i hi
      obtain ⟨cs', g1, g2⟩ := hx i hi
      obtain ⟨_, hlen, hcell⟩ := World.cells?_some g1
      obtain ⟨z0, z1, z2, z3, z4, n', t0, t1, t2, t3, t4⟩ := trod_struct5 Tryz.underlying86 g2
      match cs', hlen with
      | [u0, u1, u2, u3, u4], _ =>
        have k0 := hcell 0 (by omega)
        have k1 := hcell 1 (by omega)
        have k2 := hcell 2 (by omega)
        have k3 := hcell 3 (by omega)
        have k4 := hcell 4 (by omega)
        rw [Deep.add_add] at k0 k1 k2 k3 k4
        obtain ⟨s, q0, _, ws⟩ := DataW.trod_string Tryz.underlying9 t0
        obtain ⟨q, q1, _, wq⟩ := DataW.trod_int Tryz.underlying3 t1
        obtain ⟨d, q2, _, wd⟩ := DataW.trod_int Tryz.underlying3 t2
        obtain ⟨t, q3, _, wt⟩ := DataW.trod_string Tryz.underlying9 t3
        obtain ⟨nn, q4, _, wn⟩ := DataW.trod_int Tryz.underlying3 t4
        have r3 : Tryz.prog.cellsOf 9 = 1 := by kernel_rfl
        have r4 : Tryz.prog.cellsOf 3 = 1 := by kernel_rfl
        simp [r3, r4] at q0 q1 q2 q3 q4
        subst q0 q1 q2 q3 q4
        exact ⟨(s, q, d, t, nn), ⟨ws, wq, wd, wt, wn⟩, by simpa using k0, by simpa using k1, by simpa using k2, by simpa using k3, by simpa using k4⟩
    obtain ⟨f, hf⟩ := Deep.choose_lt each
    have spot : 0 < len → a.spot = none := fun hp => by
      have := (hf 0 (by omega)).2.1
      simpa [Addr.add] using World.cell?_spot this
    have plain : 0 < len → ∀ j, a.add j = ⟨a.block, a.off + j, none⟩ := fun hp j => by
      have := spot hp
      obtain ⟨b, o, sp⟩ := a
      simp only at this
      subst this
      exact add_plain _ _ _
    refine ⟨some a, len, cap, (List.range len).map f, rfl, ⟨by simp, hl, hm, ?_, (fun e => by cases e), ?_, ?_⟩⟩
    · intro l hl'
      obtain ⟨i, hi, rfl⟩ := List.mem_map.1 hl'
      exact (hf i (by have := List.mem_range.1 hi; omega)).1
    · rintro x e hp
      cases e
      refine ⟨?_, spot hp⟩
      obtain ⟨cs', g1, _⟩ := hx 0 (by omega)
      have := World.cells?_block g1 (by omega)
      simpa [Addr.add] using this
    · rintro x e i hi
      cases e
      simp at hi
      obtain ⟨_, g0, g1, g2, g3, g4⟩ := hf i (by omega)
      rw [plain (by omega)] at g0 g1 g2 g3 g4
      simp only [List.getElem_map, List.getElem_range]
      exact ⟨g0, by simpa [Nat.add_assoc] using g1, by simpa [Nat.add_assoc] using g2, by simpa [Nat.add_assoc] using g3, by simpa [Nat.add_assoc] using g4⟩
end Go.Proofs.YtapjkbpfhmbfaaaGreatDoor

namespace Go.Proofs.YtapjkbpfhmbfaaaGreatDoor
open Go.RowKit
set_option maxHeartbeats 400000 in
theorem szEntS_any (a : Option Addr) (len cap : Nat) (L : List EntD) (left : Int) (w : World) (hL : EntsAt w a len cap L) (h0 : 0 ≤ left) (h1 : left ≤ 1048576) :
    Calls Tryz.prog 26 #[.slice a len cap, .int .i64 left] w fun e w' => ∃ r : Int, e = .returned (.int .i64 r) ∧ (r = -1 ∨ (0 ≤ r ∧ r ≤ left ∧ (len : Int) ≤ left)) ∧ Below w.heap.size w w' := by
  have hbl := hL.room
  have hbc := hL.big
  unfold maxLen at hbc
  have HL : Hid (EntsAt w a len cap L) := hL
  clear hL
  by_cases hb : left < len
  · go_enter Tryz.func26, Tryz.ntmps26
    go_wp2
    go_ret
    exact ⟨-1, rfl, Or.inl rfl, Below.refl _ _⟩
  · go_enter Tryz.func26, Tryz.ntmps26
    go_wp2
    go_loopw [1, 5] (fun l i wr => ∃ (k : Nat) (r : Int), k ≤ len ∧ i = .int .i64 k ∧ l = .int .i64 r ∧ 0 ≤ r ∧ r ≤ left ∧ Below w.heap.size w wr) (fun _ i _ => len - (intOf i).toNat)
    case atStart => exact ⟨0, left - len, Nat.zero_le _, rfl, rfl, by omega, by omega, Below.refl _ _⟩
    case round =>
      obtain ⟨k, r, hk, rfl, rfl, hr0, hr1, hbw⟩ := hrel
      by_cases hlt : k < len
      · obtain ⟨b, off, rfl, hbb⟩ := HL.out.form (by omega)
        obtain ⟨s, q, d, t, n, hg, hlw, g0, g1, g2, g3, g4⟩ := HL.out.ent hbw hbb k hlt
        have hs := hlw.1
        have ht := hlw.2.2.2.1
        simp only at hs ht
        clear hg hlw
        by_cases hsz : r < s.size + t.size
        · go_wp2_with (go_at_call 62; refine (szEnt_no _ _ _ _ _ _ _ hs ht hr0 (by omega) hsz).mono ?_; rintro e w1 ⟨rfl, hb1⟩)
          go_ret
          exact ⟨-1, rfl, Or.inl rfl, hbw.trans (hb1.mono hbw.size)⟩
        · go_wp2_with (go_at_call 62; refine (szEnt_yes _ _ _ _ _ _ _ (by omega) (by omega)).mono ?_; rintro e w1 ⟨rfl, hb1⟩)
          go_roundw
          case rel => exact ⟨k + 1, r - s.size - t.size, by omega, by go_num, rfl, by omega, by omega, hbw.trans (hb1.mono hbw.size)⟩
          case measure => simp [intOf]; omega
      · go_wp2
        go_ret
        exact ⟨r, rfl, Or.inr ⟨hr0, hr1, by omega⟩, hbw⟩
set_option maxHeartbeats 400000 in
theorem eqEnt_same (s t : ByteArray) (q d n : Int) (w : World) :
    Calls Tryz.prog 66 #[.agg #[.string s, .int .i64 q, .int .i64 d, .string t, .int .i64 n], .agg #[.string s, .int .i64 q, .int .i64 d, .string t, .int .i64 n]] w fun e w' => e = .returned (.bool true) ∧ Below w.heap.size w w' := by
  go_enter Tryz.func66, Tryz.ntmps66
  go_wp2
  go_ret
  exact ⟨rfl, ((Below.refl _ _).alloc (Nat.le_refl _) _).alloc (by simp) _⟩
theorem Tryz.infoEnt : (Tryz.prog.info? 87).map (fun i => (i.zero, i.size, i.bytes)) = some (some (.agg #[.string ByteArray.empty, .int .i64 0, .int .i64 0, .string ByteArray.empty, .int .i64 0]), 5, 56) := by kernel_rfl
def RowEnt (xs : List Value) (j : Nat) (l : EntD) : Prop := xs[j * 5]? = some (.string l.1) ∧ xs[j * 5 + 1]? = some (.int .i64 l.2.1) ∧ xs[j * 5 + 2]? = some (.int .i64 l.2.2.1) ∧ xs[j * 5 + 3]? = some (.string l.2.2.2.1) ∧ xs[j * 5 + 4]? = some (.int .i64 l.2.2.2.2)
theorem rowEnt_other {xs : List Value} {j k : Nat} {l : EntD} (h : RowEnt xs j l) (hne : j ≠ k) (u0 u1 u2 u3 u4 : Value) : RowEnt (((((xs.set (k * 5) u0).set (k * 5 + 1) u1).set (k * 5 + 2) u2).set (k * 5 + 3) u3).set (k * 5 + 4) u4) j l := by
  obtain ⟨h0, h1, h2, h3, h4⟩ := h
  refine ⟨?_, ?_, ?_, ?_, ?_⟩ <;> (repeat rw [List.getElem?_set_ne (by omega)]) <;> assumption
theorem rowEnt_same {xs : List Value} {k : Nat} (s t : ByteArray) (q d n : Int) (h : k * 5 + 4 < xs.length) : RowEnt (((((xs.set (k * 5) (.string s)).set (k * 5 + 1) (.int .i64 q)).set (k * 5 + 2) (.int .i64 d)).set (k * 5 + 3) (.string t)).set (k * 5 + 4) (.int .i64 n)) k (s, q, d, t, n) := by
  refine ⟨?_, ?_, ?_, ?_, ?_⟩
  · rw [List.getElem?_set_ne (by omega), List.getElem?_set_ne (by omega), List.getElem?_set_ne (by omega), List.getElem?_set_ne (by omega), List.getElem?_set_self (by omega)]
  · rw [List.getElem?_set_ne (by omega), List.getElem?_set_ne (by omega), List.getElem?_set_ne (by omega), List.getElem?_set_self (by simp; omega)]
  · rw [List.getElem?_set_ne (by omega), List.getElem?_set_ne (by omega), List.getElem?_set_self (by simp; omega)]
  · rw [List.getElem?_set_ne (by omega), List.getElem?_set_self (by simp; omega)]
  · rw [List.getElem?_set_self (by simp; omega)]
theorem entsAt_of_row {w : World} {base g n cap : Nat} {xs : List Value} {L : List EntD} (h : w.ownsRow base 87 5 (.slice (some ⟨g, 0, none⟩) n cap) n xs) (hn : L.length = n) (hw : ∀ l ∈ L, EntW l)
    (hh : ∀ j l, L[j]? = some l → RowEnt xs j l) : EntsAt w (some ⟨g, 0, none⟩) n cap L := by
  have hlt := (h.lt g rfl).2
  have hrc : n ≤ cap ∧ cap ≤ maxLen := by
    rcases h.2 with ⟨h', _⟩ | ⟨g', cap', cur, h', _, _, hnc, hcm, _, _⟩
    · simp at h'
    · simp only [Value.slice.injEq, Option.some.injEq, Addr.mk.injEq, and_true, true_and] at h'
      obtain ⟨rfl, rfl⟩ := h'
      exact ⟨hnc, hcm⟩
  refine ⟨hn, hrc.1, hrc.2, hw, (fun e => by cases e), ?_, ?_⟩
  · rintro x e _
    cases e
    exact ⟨hlt, rfl⟩
  · rintro x e i hi
    cases e
    obtain ⟨r0, r1, r2, r3, r4⟩ := hh i L[i] (List.getElem?_eq_getElem hi)
    rw [hn] at hi
    simp only [Nat.zero_add]
    exact ⟨(h.cellAt _ (by omega)).trans r0, (h.cellAt _ (by omega)).trans r1, (h.cellAt _ (by omega)).trans r2, (h.cellAt _ (by omega)).trans r3, (h.cellAt _ (by omega)).trans r4⟩
set_option maxHeartbeats 1000000 in
theorem toEntS_any (a : Option Addr) (len cap : Nat) (L : List EntD) (w : World) (hL : EntsAt w a len cap L) (hbig : len ≤ 1048576) :
    Calls Tryz.prog 28 #[.slice a len cap] w fun e w' => e = .returned (.slice (some ⟨w.heap.size, 0, none⟩) len len) ∧ EntsAt w' (some ⟨w.heap.size, 0, none⟩) len len L ∧ w.heap.size < w'.heap.size ∧ Below w.heap.size w w' := by
  have HLEN : Hid (L.length = len) := hL.length
  have HENTS : Hid (∀ l ∈ L, EntW l) := hL.ents
  have HL : Hid (EntsAt w a len cap L) := hL
  clear hL
  obtain ⟨i0, hi, hz0, hz1, hz2⟩ := info_parts Tryz.infoEnt
  go_enter Tryz.func28, Tryz.ntmps28
  go_wp2_with (at_make; refine wpList_make_full _ rfl _ _ 33 rfl w.heap.size 87 i0 _ 5 Tryz.underlying33 hi hz0 hz1 .i64 .i64 _ _ len rfl rfl (by simp) (by simp) (by rw [hz2]; omega) (by unfold maxLen; omega) (Nat.le_refl _) ?_; intro w1 hown hgrow)
  have hb1 : Below w.heap.size w w1 := (Below.refl _ _).grown hgrow (Nat.le_refl _) (by simp)
  have hsz1 : w.heap.size < w1.heap.size := (hown.lt _ rfl).2
  go_loopw [4] (fun i wr => ∃ (k : Nat) (xs : List Value), k ≤ len ∧ i = .int .i64 k ∧ wr.ownsRow w.heap.size 87 5 (.slice (some ⟨w.heap.size, 0, none⟩) len len) len xs ∧ Below w.heap.size w wr ∧ (∀ j l, j < k → L[j]? = some l → RowEnt xs j l)) (fun i _ => len - (intOf i).toNat)
  case atStart => exact ⟨0, _, Nat.zero_le _, rfl, hown, hb1, fun j l h => absurd h (Nat.not_lt_zero _)⟩
  case round =>
    obtain ⟨k, xs, hk, rfl, ho, hb, hrow⟩ := hrel
    have HROW : Hid (∀ j l, j < k → L[j]? = some l → RowEnt xs j l) := hrow
    clear hrow hown hgrow
    by_cases hlt : k < len
    · obtain ⟨b, off, rfl, hbb⟩ := HL.out.form (by omega)
      obtain ⟨s, q, d, t, n, hg, hlw, g0, g1, g2, g3, g4⟩ := HL.out.ent hb hbb k hlt
      have HG : Hid (L[k]? = some (s, q, d, t, n)) := hg
      clear hg hlw
      have hxl := ho.1
      have HX : Hid (xs.length = len * 5) := hxl
      clear hxl
      have HO : Hid (wr.ownsRow w.heap.size 87 5 (.slice (some ⟨w.heap.size, 0, none⟩) len len) len xs) := ho
      clear ho
      go_wp2_with fail
      refine (toEnt_any _ _ _ _ _ _).mono ?_
      rintro e w2 ⟨rfl, hb2⟩
      have ho2 : w2.ownsRow w.heap.size 87 5 (.slice (some ⟨w.heap.size, 0, none⟩) len len) len xs := HO.out.kept (row := none) ⟨hb2.os, hb2.tape, hb2.output, hb2.size, fun k hk _ => hb2.block k hk⟩ (.inr (by simp [Value.ownBlock]))
      have c0 : ∃ v, w2.cell? ⟨w.heap.size, k * 5, none⟩ = some v := ⟨_, (ho2.cellAt _ (by omega)).trans (List.getElem?_eq_getElem (by rw [HX.out]; omega))⟩
      have c1 : ∃ v, w2.cell? ⟨w.heap.size, k * 5 + 1, none⟩ = some v := ⟨_, (ho2.cellAt _ (by omega)).trans (List.getElem?_eq_getElem (by rw [HX.out]; omega))⟩
      have c2 : ∃ v, w2.cell? ⟨w.heap.size, k * 5 + 2, none⟩ = some v := ⟨_, (ho2.cellAt _ (by omega)).trans (List.getElem?_eq_getElem (by rw [HX.out]; omega))⟩
      have c3 : ∃ v, w2.cell? ⟨w.heap.size, k * 5 + 3, none⟩ = some v := ⟨_, (ho2.cellAt _ (by omega)).trans (List.getElem?_eq_getElem (by rw [HX.out]; omega))⟩
      have c4 : ∃ v, w2.cell? ⟨w.heap.size, k * 5 + 4, none⟩ = some v := ⟨_, (ho2.cellAt _ (by omega)).trans (List.getElem?_eq_getElem (by rw [HX.out]; omega))⟩
      obtain ⟨v0, c0⟩ := c0
      obtain ⟨v1, c1⟩ := c1
      obtain ⟨v2, c2⟩ := c2
      obtain ⟨v3, c3⟩ := c3
      obtain ⟨v4, c4⟩ := c4
      have f0 : w2.frozen? ⟨w.heap.size, k * 5, none⟩ = false := ho2.frozenAt _
      have f1 : w2.frozen? ⟨w.heap.size, k * 5 + 1, none⟩ = false := ho2.frozenAt _
      have f2 : w2.frozen? ⟨w.heap.size, k * 5 + 2, none⟩ = false := ho2.frozenAt _
      have f3 : w2.frozen? ⟨w.heap.size, k * 5 + 3, none⟩ = false := ho2.frozenAt _
      have f4 : w2.frozen? ⟨w.heap.size, k * 5 + 4, none⟩ = false := ho2.frozenAt _
      have HO2 : Hid (w2.ownsRow w.heap.size 87 5 (.slice (some ⟨w.heap.size, 0, none⟩) len len) len xs) := ho2
      clear ho2
      go_wp2
      go_roundw
      case rel =>
        have t0 := HO2.out.stored (k * 5) (.string s)
        have t1 := t0.1.stored (k * 5 + 1) (.int .i64 q)
        have t2 := t1.1.stored (k * 5 + 2) (.int .i64 d)
        have t3 := t2.1.stored (k * 5 + 3) (.string t)
        have t4 := t3.1.stored (k * 5 + 4) (.int .i64 n)
        refine ⟨k + 1, _, by omega, by go_num, t4.1, ?_, ?_⟩
        · exact (((((hb.trans (hb2.mono hb.size)).setCell (p := ⟨w.heap.size, _, none⟩) (Nat.le_refl _) _).setCell (p := ⟨w.heap.size, _, none⟩) (Nat.le_refl _) _).setCell (p := ⟨w.heap.size, _, none⟩) (Nat.le_refl _) _).setCell (p := ⟨w.heap.size, _, none⟩) (Nat.le_refl _) _).setCell (p := ⟨w.heap.size, _, none⟩) (Nat.le_refl _) _
        · intro j l hj hl
          by_cases hjk : j = k
          · subst hjk
            rw [HG.out] at hl
            cases hl
            exact rowEnt_same s t q d n (by rw [HX.out]; omega)
          · exact rowEnt_other (HROW.out j l (by omega) hl) hjk _ _ _ _ _
      case measure => simp [intOf]; omega
    · go_wp2
      go_ret
      exact ⟨rfl, entsAt_of_row ho HLEN.out HENTS.out (fun j l hl => HROW.out j l (by have := (List.getElem?_eq_some_iff.1 hl).1; rw [HLEN.out] at this; omega) hl), (ho.lt _ rfl).2, hb⟩
set_option maxHeartbeats 800000 in
theorem eqEntS_same (b1 o1 b2 o2 len cap1 cap2 : Nat) (L : List EntD) (w : World) (h1 : EntsAt w (some ⟨b1, o1, none⟩) len cap1 L) (h2 : EntsAt w (some ⟨b2, o2, none⟩) len cap2 L) :
    Calls Tryz.prog 30 #[.slice (some ⟨b1, o1, none⟩) len cap1, .slice (some ⟨b2, o2, none⟩) len cap2] w fun e w' => e = .returned (.bool true) ∧ Below w.heap.size w w' := by
  have hbl := h1.room
  have hbc := h1.big
  unfold maxLen at hbc
  have H1 : Hid (EntsAt w (some ⟨b1, o1, none⟩) len cap1 L) := h1
  have H2 : Hid (EntsAt w (some ⟨b2, o2, none⟩) len cap2 L) := h2
  clear h1 h2
  go_enter Tryz.func30, Tryz.ntmps30
  go_wp2
  go_loopw [5] (fun i wr => ∃ k : Nat, k ≤ len ∧ i = .int .i64 k ∧ Below w.heap.size w wr) (fun i _ => len - (intOf i).toNat)
  case atStart => exact ⟨0, Nat.zero_le _, rfl, Below.refl _ _⟩
  case round =>
    obtain ⟨k, hk, rfl, hb⟩ := hrel
    by_cases hlt : k < len
    · obtain ⟨s, q, d, t, n, hg, _, g0, g1, g2, g3, g4⟩ := H1.out.ent hb (H1.out.lies _ rfl (by omega)).1 k hlt
      obtain ⟨s', q', d', t', n', hg', _, p0, p1, p2, p3, p4⟩ := H2.out.ent hb (H2.out.lies _ rfl (by omega)).1 k hlt
      rw [hg] at hg'
      cases hg'
      clear hg
      have hltI : (k : Int) < (len : Int) := by omega
      go_wp2_with fail
      go_region_with (go_at_call 66; refine (eqEnt_same _ _ _ _ _ _).mono ?_; rintro e w1 ⟨rfl, hb1⟩)
      all_goals
        go_wp2
        go_roundw
        case rel => exact ⟨k + 1, by omega, by go_num, hb.drew.trans (hb1.mono hb.size)⟩
        case measure => simp [intOf]; omega
    · go_wp2
      go_ret
      exact ⟨rfl, hb⟩
end Go.Proofs.YtapjkbpfhmbfaaaGreatDoor

namespace Go.Proofs.YtapjkbpfhmbfaaaGreatDoor
open Go.RowKit
def entCells (e : EntD) : List Value := [.string e.1, .int .i64 e.2.1, .int .i64 e.2.2.1, .string e.2.2.2.1, .int .i64 e.2.2.2.2]
def flatE (L : List EntD) : List Value := L.flatMap entCells
theorem flatE_append (A B : List EntD) : flatE (A ++ B) = flatE A ++ flatE B := by simp [flatE]
theorem flatE_len (L : List EntD) : (flatE L).length = L.length * 5 := by
  induction L with
  | nil => rfl
  | cons l r ih => simp [flatE, entCells] at ih ⊢; omega
theorem flatE_cons (l : EntD) (r : List EntD) : flatE (l :: r) = .string l.1 :: .int .i64 l.2.1 :: .int .i64 l.2.2.1 :: .string l.2.2.2.1 :: .int .i64 l.2.2.2.2 :: flatE r := rfl
theorem flatE_has (L : List EntD) (j : Nat) (l : EntD) (h : L[j]? = some l) : RowEnt (flatE L) j l := by
  induction L generalizing j with
  | nil => simp at h
  | cons a r ih =>
    rw [flatE_cons]
    cases j with
    | zero => simp at h; subst h; exact ⟨rfl, rfl, rfl, rfl, rfl⟩
    | succ j =>
      simp at h
      obtain ⟨h0, h1, h2, h3, h4⟩ := ih j h
      refine ⟨?_, ?_, ?_, ?_, ?_⟩
      · rw [show (j + 1) * 5 = j * 5 + 1 + 1 + 1 + 1 + 1 by omega]; simpa using h0
      · rw [show (j + 1) * 5 + 1 = j * 5 + 1 + 1 + 1 + 1 + 1 + 1 by omega]; simpa using h1
      · rw [show (j + 1) * 5 + 2 = j * 5 + 2 + 1 + 1 + 1 + 1 + 1 by omega]; simpa using h2
      · rw [show (j + 1) * 5 + 3 = j * 5 + 3 + 1 + 1 + 1 + 1 + 1 by omega]; simpa using h3
      · rw [show (j + 1) * 5 + 4 = j * 5 + 4 + 1 + 1 + 1 + 1 + 1 by omega]; simpa using h4
theorem row_flat {xs : List Value} {L : List EntD} (hx : xs.length = L.length * 5) (hh : ∀ j l, L[j]? = some l → RowEnt xs j l) : xs = flatE L := by
  apply List.ext_getElem?
  intro i
  by_cases hi : i < L.length * 5
  · have hj : i / 5 < L.length := by omega
    obtain ⟨a0, a1, a2, a3, a4⟩ := hh (i / 5) L[i / 5] (List.getElem?_eq_getElem hj)
    obtain ⟨b0, b1, b2, b3, b4⟩ := flatE_has L (i / 5) L[i / 5] (List.getElem?_eq_getElem hj)
    have : i = i / 5 * 5 ∨ i = i / 5 * 5 + 1 ∨ i = i / 5 * 5 + 2 ∨ i = i / 5 * 5 + 3 ∨ i = i / 5 * 5 + 4 := by omega
    rcases this with e | e | e | e | e
    · rw [e, a0, b0]
    · rw [e, a1, b1]
    · rw [e, a2, b2]
    · rw [e, a3, b3]
    · rw [e, a4, b4]
  · rw [List.getElem?_eq_none (by omega), List.getElem?_eq_none (by rw [flatE_len]; omega)]
theorem flatE_one (L : List EntD) : ∀ u ∈ flatE L, u.oneCell' = true := by
  intro u hu
  simp only [flatE, List.mem_flatMap, entCells, List.mem_cons, List.not_mem_nil, or_false] at hu
  obtain ⟨l, _, rfl | rfl | rfl | rfl | rfl⟩ := hu <;> rfl
structure OwnE (w : World) (base b n cap : Nat) (L : List EntD) : Prop where
  owns : w.ownsRow base 87 5 (.slice (some ⟨b, 0, none⟩) n cap) n (flatE L)
  len : L.length = n
  ents : ∀ l ∈ L, EntW l
theorem OwnE.entsAt {w : World} {base b n cap : Nat} {L : List EntD} (h : OwnE w base b n cap L) : EntsAt w (some ⟨b, 0, none⟩) n cap L :=
  entsAt_of_row h.owns h.len h.ents (fun j l hl => flatE_has L j l hl)
theorem OwnE.lt {w : World} {base b n cap : Nat} {L : List EntD} (h : OwnE w base b n cap L) : base ≤ b ∧ b < w.heap.size := h.owns.lt b rfl
theorem OwnE.grown {w w' : World} {base b n cap : Nat} {L : List EntD} {row : Option Nat} (h : OwnE w base b n cap L) (hg : w.grownBy w' row) (hne : some b ≠ row) : OwnE w' base b n cap L :=
  ⟨h.owns.kept hg (.inr hne), h.len, h.ents⟩
theorem OwnE.below {w w' : World} {base b n cap : Nat} {L : List EntD} (h : OwnE w base b n cap L) (hb : Below w.heap.size w w') : OwnE w' base b n cap L := h.grown (row := none) ⟨hb.os, hb.tape, hb.output, hb.size, fun k hk _ => hb.block k hk⟩ (by simp)
theorem OwnE.setCell {w : World} {base b n cap : Nat} {L : List EntD} (h : OwnE w base b n cap L) {p : Addr} (hp : p.block ≠ b) (u : Value) : OwnE (w.setCell p u) base b n cap L :=
  h.grown (row := some p.block) ⟨rfl, rfl, rfl, by simp [World.setCell], fun k _ hk => Below.heap_setCell _ _ _ _ (fun e => hk (by rw [e]))⟩ (fun e => hp (by cases e; rfl))
theorem OwnE.mono {w : World} {base base' b n cap : Nat} {L : List EntD} (h : OwnE w base b n cap L) (hb : base' ≤ base) : OwnE w base' b n cap L := by
  refine ⟨⟨h.owns.1, ?_⟩, h.len, h.ents⟩
  rcases h.owns.2 with h2 | ⟨g, cap, cur, hv, hg, r⟩
  · exact Or.inl h2
  · exact Or.inr ⟨g, cap, cur, hv, Nat.le_trans hb hg, r⟩
theorem EntsAt.sub {w : World} {b off len cap i j : Nat} {L : List EntD} (h : EntsAt w (some ⟨b, off, none⟩) len cap L) (hij : i ≤ j) (hj : j ≤ len) : EntsAt w (some ⟨b, off + i * 5, none⟩) (j - i) (cap - i) ((L.drop i).take (j - i)) where
  length := by have := h.length; simp; omega
  room := by have := h.room; omega
  big := by have := h.big; omega
  ents := fun l hl => h.ents l (List.mem_of_mem_drop (List.mem_of_mem_take hl))
  nil := fun e => by cases e
  lies := fun x e hp => by cases e; exact h.lies ⟨b, off, none⟩ rfl (by omega)
  cells := fun x e k hk => by
    cases e
    have hk' : i + k < L.length := by simp at hk; omega
    have h1 := h.cells ⟨b, off, none⟩ rfl (i + k) hk'
    have e1 : off + (i + k) * 5 = off + i * 5 + k * 5 := by omega
    simp only [e1] at h1
    simpa using h1
end Go.Proofs.YtapjkbpfhmbfaaaGreatDoor

namespace Go.Proofs.YtapjkbpfhmbfaaaGreatDoor
open Go.RowKit
structure OwnO (w : World) (base : Nat) (a : Option Addr) (n c : Nat) (L : List EntD) : Prop where
  nil : a = none → n = 0 ∧ c = 0 ∧ L = []
  own : ∀ x, a = some x → ∃ g, x = ⟨g, 0, none⟩ ∧ OwnE w base g n c L
theorem OwnO.some {w : World} {base g n c : Nat} {L : List EntD} (h : OwnE w base g n c L) : OwnO w base (some ⟨g, 0, none⟩) n c L := ⟨(fun e => by cases e), (fun x e => by cases e; exact ⟨g, rfl, h⟩)⟩
theorem OwnO.none (w : World) (base : Nat) : OwnO w base none 0 0 [] := ⟨fun _ => ⟨rfl, rfl, rfl⟩, fun x e => by cases e⟩
theorem OwnO.len {w : World} {base : Nat} {a : Option Addr} {n c : Nat} {L : List EntD} (h : OwnO w base a n c L) : L.length = n := by
  cases a with
  | none => obtain ⟨h1, _, h3⟩ := h.nil rfl; rw [h1, h3]; rfl
  | some x => obtain ⟨g, _, h2⟩ := h.own x rfl; exact h2.len
theorem OwnO.entsAt {w : World} {base : Nat} {a : Option Addr} {n c : Nat} {L : List EntD} (h : OwnO w base a n c L) : EntsAt w a n c L := by
  cases a with
  | none =>
    obtain ⟨h1, h2, h3⟩ := h.nil rfl
    subst h1 h2 h3
    exact ⟨rfl, Nat.le_refl _, Nat.zero_le _, by simp, fun _ => rfl, (fun x e => by cases e), (fun x e => by cases e)⟩
  | some x => obtain ⟨g, rfl, h2⟩ := h.own x rfl; exact h2.entsAt
theorem OwnO.lt {w : World} {base : Nat} {a : Option Addr} {n c : Nat} {L : List EntD} (h : OwnO w base a n c L) : ∀ x, a = .some x → base ≤ x.block ∧ x.block < w.heap.size := fun x e => by
  obtain ⟨g, rfl, h2⟩ := h.own x e
  exact h2.lt
theorem OwnO.grown {w w' : World} {base : Nat} {a : Option Addr} {n c : Nat} {L : List EntD} {row : Option Nat} (h : OwnO w base a n c L) (hg : w.grownBy w' row) (hne : ∀ x, a = .some x → .some x.block ≠ row) : OwnO w' base a n c L :=
  ⟨h.nil, fun x e => by obtain ⟨g, rfl, h2⟩ := h.own x e; exact ⟨g, rfl, h2.grown hg (hne _ e)⟩⟩
theorem OwnO.mono {w : World} {base base' : Nat} {a : Option Addr} {n c : Nat} {L : List EntD} (h : OwnO w base a n c L) (hb : base' ≤ base) : OwnO w base' a n c L :=
  ⟨h.nil, fun x e => by obtain ⟨g, rfl, h2⟩ := h.own x e; exact ⟨g, rfl, h2.mono hb⟩⟩
theorem grown_of_below {w w' : World} (hb : Below w.heap.size w w') : w.grownBy w' none := ⟨hb.os, hb.tape, hb.output, hb.size, fun k hk _ => hb.block k hk⟩
theorem OwnO.below {w w' : World} {base : Nat} {a : Option Addr} {n c : Nat} {L : List EntD} (h : OwnO w base a n c L) (hb : Below w.heap.size w w') : OwnO w' base a n c L := h.grown (grown_of_below hb) (fun x _ e => by cases e)
theorem cell_five (w : World) (T : TypeId) (s t : ByteArray) (q d n : Int) : ∀ j u, (entCells (s, q, d, t, n))[j]? = some u → (w.alloc (.cells #[.string s, .int .i64 q, .int .i64 d, .string t, .int .i64 n] T)).cell? ((⟨w.heap.size, 0, none⟩ : Addr).add j) = some u := by
  intro j u hj
  rw [Go.WideShapes.add_plain]
  match j, hj with
  | 0, hj => simp [entCells] at hj; subst hj; simp
  | 1, hj => simp [entCells] at hj; subst hj; simp
  | 2, hj => simp [entCells] at hj; subst hj; simp
  | 3, hj => simp [entCells] at hj; subst hj; simp
  | 4, hj => simp [entCells] at hj; subst hj; simp
  | j + 5, hj => simp [entCells] at hj
theorem rows_ne {W : World} {b b' e e' s s' n n' : Nat} {v v' : Value} {xs xs' : List Value} (h : W.ownsRow b e s v n xs) (h' : W.ownsRow b' e' s' v' n' xs') (hne : e ≠ e') {k : Nat} (hk : v.ownBlock = some k) : v'.ownBlock ≠ some k := fun hk' => by
  rcases h.2 with ⟨rfl, _⟩ | ⟨g, cap, cur, rfl, _, hg, _⟩
  · cases hk
  · cases hk
    rcases h'.2 with ⟨rfl, _⟩ | ⟨g', cap', cur', rfl, _, hg', _⟩
    · cases hk'
    · cases hk'
      rw [hg] at hg'
      cases hg'
      exact hne rfl
end Go.Proofs.YtapjkbpfhmbfaaaGreatDoor
