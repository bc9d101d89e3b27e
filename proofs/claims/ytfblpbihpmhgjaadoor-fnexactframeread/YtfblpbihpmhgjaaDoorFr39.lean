/-
  Rows of lists of entries of a call's own; no statement of the program stands here.
-/
import Derived.Test.YtfblpbihpmhgjaaDoorFr35
import Derived.Maps.AppendAt
namespace Go.Proofs.YtfblpbihpmhgjaaDoor
open Go.RowKit

/-- The slice at a holds lists of entries. -/
structure PartsAt (w : World) (a : Option Addr) (n c : Nat) (P : List (List EntD)) : Prop where
  length : P.length = n
  room : n ≤ c
  big : c ≤ maxLen
  nil : a = none → n = 0
  lies : ∀ x, a = some x → 0 < n → x.block < w.heap.size ∧ x.spot = none
  lists : ∀ x, a = some x → ∀ i (h : i < P.length), ∃ s m d, w.cell? ⟨x.block, x.off + i, none⟩ = some (.slice s m d) ∧ EntsAt w s m d P[i]
theorem PartsAt.keep {w w' : World} {a : Option Addr} {n c : Nat} {P : List (List EntD)} (h : PartsAt w a n c P) (hb : Below w.heap.size w w') : PartsAt w' a n c P where
  length := h.length
  room := h.room
  big := h.big
  nil := h.nil
  lies := fun x e hp => ⟨Nat.lt_of_lt_of_le (h.lies x e hp).1 hb.size, (h.lies x e hp).2⟩
  lists := fun x e i hi => by
    obtain ⟨s, m, d, c0, hL⟩ := h.lists x e i hi
    exact ⟨s, m, d, cell_later hb c0, hL.keep hb⟩
theorem PartsAt.form {w : World} {a : Option Addr} {n c : Nat} {P : List (List EntD)} (h : PartsAt w a n c P) (hl : 1 ≤ n) : ∃ b off, a = some ⟨b, off, none⟩ ∧ b < w.heap.size := by
  cases a with
  | none => have := h.nil rfl; omega
  | some x =>
    obtain ⟨b, off, spot⟩ := x
    obtain ⟨h1, h2⟩ := h.lies _ rfl (by omega)
    simp only at h1 h2
    subst h2
    exact ⟨b, off, rfl, h1⟩
theorem PartsAt.list {w wr : World} {b off n c : Nat} {P : List (List EntD)} (h : PartsAt w (some ⟨b, off, none⟩) n c P) (hb : Below w.heap.size w wr) (k : Nat) (hk : k < n) :
    ∃ A s m d, P[k]? = some A ∧ wr.cell? ⟨b, off + k, none⟩ = some (.slice s m d) ∧ EntsAt wr s m d A := by
  have hk' : k < P.length := by rw [h.length]; exact hk
  obtain ⟨s, m, d, c0, hL⟩ := (h.keep hb).lists _ rfl k hk'
  exact ⟨P[k], s, m, d, List.getElem?_eq_getElem hk', c0, hL⟩

theorem Tryd.infoEntS : (Tryd.prog.info? 40).map (fun i => (i.zero, i.size, i.bytes)) = some (some (.slice none 0 0), 1, 24) := by kernel_rfl

/-- A row of lists of entries, whose lists lie in other blocks than the row and y. -/
structure PartsOwn (w : World) (base g n c : Nat) (P : List (List EntD)) (vs : List Value) (y : Option Nat) : Prop where
  owns : w.ownsRow base 40 1 (.slice (some ⟨g, 0, none⟩) n c) n vs
  len : P.length = n
  ne : some g ≠ y
  lists : ∀ (i : Nat) A, P[i]? = some A → ∃ s m d, vs[i]? = some (.slice s m d) ∧ EntsAt w s m d A ∧ ∀ x, s = some x → 0 < m → x.block ≠ g ∧ some x.block ≠ y
theorem EntsAt.grownB {w w' : World} {s : Option Addr} {m d : Nat} {A : List EntD} {row : Option Nat} (h : EntsAt w s m d A) (hg : w.grownBy w' row) (hne : ∀ x, s = some x → 0 < m → some x.block ≠ row) : EntsAt w' s m d A :=
  h.moved hg.size (fun x e hp o => World.cell?_of_block (a := ⟨x.block, o, none⟩) (hg.block x.block (h.lies x e hp).1 (hne x e hp)))
theorem PartsOwn.partsAt {w : World} {base g n c : Nat} {P : List (List EntD)} {vs : List Value} {y : Option Nat} (h : PartsOwn w base g n c P vs y) : PartsAt w (some ⟨g, 0, none⟩) n c P := by
  have hlt := (h.owns.lt g rfl).2
  have hrc : n ≤ c ∧ c ≤ maxLen := by
    rcases h.owns.2 with ⟨h', _⟩ | ⟨g', cap', cur, h', _, _, hnc, hcm, _, _⟩
    · simp at h'
    · simp only [Value.slice.injEq, Option.some.injEq, Addr.mk.injEq, and_true, true_and] at h'
      obtain ⟨rfl, rfl⟩ := h'
      exact ⟨hnc, hcm⟩
  refine ⟨h.len, hrc.1, hrc.2, (fun e => by cases e), ?_, ?_⟩
  · rintro x e _
    cases e
    exact ⟨hlt, rfl⟩
  · rintro x e i hi
    cases e
    obtain ⟨s, m, d, hv, hE, _⟩ := h.lists i _ (List.getElem?_eq_getElem hi)
    refine ⟨s, m, d, ?_, hE⟩
    have := h.owns.cellAt i (by rw [← h.len]; omega)
    rw [hv] at this
    simpa using this
/-- What grows elsewhere leaves the row as it is. -/
theorem PartsOwn.grown {w w' : World} {base g n c : Nat} {P : List (List EntD)} {vs : List Value} {y row : Option Nat} (h : PartsOwn w base g n c P vs y) (hg : w.grownBy w' row) (hr : ∀ k, row = some k → y = some k) : PartsOwn w' base g n c P vs y where
  owns := h.owns.kept hg (.inr (fun e => h.ne (by rw [hr g e.symm])))
  len := h.len
  ne := h.ne
  lists := fun i A hA => by
    obtain ⟨s, m, d, hv, hE, hx⟩ := h.lists i A hA
    exact ⟨s, m, d, hv, hE.grownB hg (fun x e hp e' => (hx x e hp).2 (hr _ e'.symm).symm), hx⟩
theorem grown_none {w w' : World} (hb : Below w.heap.size w w') : w.grownBy w' none := ⟨hb.os, hb.tape, hb.output, hb.size, fun k hk _ => hb.block k hk⟩
theorem PartsOwn.below {w w' : World} {base g n c : Nat} {P : List (List EntD)} {vs : List Value} {y : Option Nat} (h : PartsOwn w base g n c P vs y) (hb : Below w.heap.size w w') : PartsOwn w' base g n c P vs y := h.grown (grown_none hb) (fun k e => by cases e)
/-- Another block, which is new, is looked at from now on. -/
theorem PartsOwn.turn {w : World} {base g n c : Nat} {P : List (List EntD)} {vs : List Value} {y : Option Nat} (h : PartsOwn w base g n c P vs y) {y' : Option Nat} (hy : y' = y ∨ y' = none ∨ y' = some w.heap.size) : PartsOwn w base g n c P vs y' where
  owns := h.owns
  len := h.len
  ne := by
    rcases hy with rfl | rfl | rfl
    · exact h.ne
    · exact fun e => by cases e
    · intro e; have h1 := (h.owns.lt g rfl).2; have h2 := Option.some.inj e; omega
  lists := fun i A hA => by
    obtain ⟨s, m, d, hv, hE, hx⟩ := h.lists i A hA
    refine ⟨s, m, d, hv, hE, fun x e hp => ⟨(hx x e hp).1, ?_⟩⟩
    rcases hy with rfl | rfl | rfl
    · exact (hx x e hp).2
    · exact fun e => by cases e
    · intro e'; have h1 := (hE.lies x e hp).1; have h2 := Option.some.inj e'; omega
/-- A list is put behind the others. -/
theorem PartsOwn.push {w w' : World} {base g n c g2 c2 : Nat} {P : List (List EntD)} {vs : List Value} {y : Option Nat} (h : PartsOwn w base g n c P vs y) {s : Option Addr} {m d : Nat} {A : List EntD}
    (ho : w'.ownsRow base 40 1 (.slice (some ⟨g2, 0, none⟩) (n + 1) c2) (n + 1) (vs ++ [.slice s m d])) (hg : w.grownBy w' (some g)) (h2 : g2 = g ∨ g2 = w.heap.size)
    (hE : EntsAt w s m d A) (hx : ∀ x, s = some x → 0 < m → x.block ≠ g) : PartsOwn w' base g2 (n + 1) c2 (P ++ [A]) (vs ++ [.slice s m d]) none where
  owns := ho
  len := by rw [List.length_append, h.len]; rfl
  ne := fun e => by cases e
  lists := fun i B hB => by
    have hvl : vs.length = n := by have := h.owns.1; omega
    by_cases hi : i < n
    · rw [List.getElem?_append_left (by rw [h.len]; exact hi)] at hB
      obtain ⟨s', m', d', hv, hE', hx'⟩ := h.lists i B hB
      refine ⟨s', m', d', by rw [List.getElem?_append_left (by rw [hvl]; exact hi)]; exact hv, hE'.grownB hg (fun x e hp e' => (hx' x e hp).1 (by cases e'; rfl)), fun x e hp => ⟨?_, fun e => by cases e⟩⟩
      rcases h2 with rfl | rfl
      · exact (hx' x e hp).1
      · have := (hE'.lies x e hp).1; omega
    · rw [List.getElem?_append_right (by rw [h.len]; omega), h.len] at hB
      have hi0 : i - n = 0 := by
        by_cases e : i - n = 0
        · exact e
        · rw [List.getElem?_eq_none (by simp; omega)] at hB; cases hB
      rw [hi0] at hB
      simp at hB
      subst hB
      refine ⟨s, m, d, by rw [List.getElem?_append_right (by rw [hvl]; omega), hvl, hi0]; rfl, hE.grownB hg (fun x e hp e' => hx x e hp (by cases e'; rfl)), fun x e hp => ⟨?_, fun e => by cases e⟩⟩
      rcases h2 with rfl | rfl
      · exact hx x e hp
      · have := (hE.lies x e hp).1; omega
end Go.Proofs.YtfblpbihpmhgjaaDoor
