/-
  A list of entries in memory of the call's own; the laws' own copies of lists and runs, which lie so, by walks of their Go text.
-/
import Derived.Test.YtfblpbihpmhgjaaDoorBp38
namespace Go.Proofs.YtfblpbihpmhgjaaDoor
open Go.RowKit

def entCells (e : EntD) : List Value := [.string e.1, .int .i64 e.2.1, .int .i64 e.2.2.1, .string e.2.2.2.1, .int .i64 e.2.2.2.2]
def flatE (L : List EntD) : List Value := L.flatMap entCells
theorem flatE_append (A B : List EntD) : flatE (A ++ B) = flatE A ++ flatE B := by simp [flatE]
theorem flatE_len (L : List EntD) : (flatE L).length = L.length * 5 := by
  induction L with
  | nil => rfl
  | cons l r ih => simp [flatE, entCells] at ih ⊢; omega
theorem flatE_cons (l : EntD) (r : List EntD) : flatE (l :: r) = .string l.1 :: .int .i64 l.2.1 :: .int .i64 l.2.2.1 :: .string l.2.2.2.1 :: .int .i64 l.2.2.2.2 :: flatE r := rfl
theorem flatE_has (L : List EntD) (j : Nat) (l : EntD) (h : L[j]? = some l) : RowEnt (flatE L) j l := by
  induction L generalizing j with
  | nil => simp at h
  | cons a r ih =>
    rw [flatE_cons]
    cases j with
    | zero => simp at h; subst h; exact ⟨rfl, rfl, rfl, rfl, rfl⟩
    | succ j =>
      simp at h
      obtain ⟨h0, h1, h2, h3, h4⟩ := ih j h
      refine ⟨?_, ?_, ?_, ?_, ?_⟩
      · rw [show (j + 1) * 5 = j * 5 + 1 + 1 + 1 + 1 + 1 by omega]; simpa using h0
      · rw [show (j + 1) * 5 + 1 = j * 5 + 1 + 1 + 1 + 1 + 1 + 1 by omega]; simpa using h1
      · rw [show (j + 1) * 5 + 2 = j * 5 + 2 + 1 + 1 + 1 + 1 + 1 by omega]; simpa using h2
      · rw [show (j + 1) * 5 + 3 = j * 5 + 3 + 1 + 1 + 1 + 1 + 1 by omega]; simpa using h3
      · rw [show (j + 1) * 5 + 4 = j * 5 + 4 + 1 + 1 + 1 + 1 + 1 by omega]; simpa using h4
/-- A row that has all entries, and no more, is they laid out. -/
theorem row_flat {xs : List Value} {L : List EntD} (hx : xs.length = L.length * 5) (hh : ∀ j l, L[j]? = some l → RowEnt xs j l) : xs = flatE L := by
  apply List.ext_getElem?
  intro i
  by_cases hi : i < L.length * 5
  · have hj : i / 5 < L.length := by omega
    obtain ⟨a0, a1, a2, a3, a4⟩ := hh (i / 5) L[i / 5] (List.getElem?_eq_getElem hj)
    obtain ⟨b0, b1, b2, b3, b4⟩ := flatE_has L (i / 5) L[i / 5] (List.getElem?_eq_getElem hj)
    have : i = i / 5 * 5 ∨ i = i / 5 * 5 + 1 ∨ i = i / 5 * 5 + 2 ∨ i = i / 5 * 5 + 3 ∨ i = i / 5 * 5 + 4 := by omega
    rcases this with e | e | e | e | e
    · rw [e, a0, b0]
    · rw [e, a1, b1]
    · rw [e, a2, b2]
    · rw [e, a3, b3]
    · rw [e, a4, b4]
  · rw [List.getElem?_eq_none (by omega), List.getElem?_eq_none (by rw [flatE_len]; omega)]
theorem flatE_one (L : List EntD) : ∀ u ∈ flatE L, u.oneCell' = true := by
  intro u hu
  simp only [flatE, List.mem_flatMap, entCells, List.mem_cons, List.not_mem_nil, or_false] at hu
  obtain ⟨l, _, rfl | rfl | rfl | rfl | rfl⟩ := hu <;> rfl

/-- The entries L lie in memory of the call's own, at the head of block b, from block base on. -/
structure OwnE (w : World) (base b n cap : Nat) (L : List EntD) : Prop where
  owns : w.ownsRow base 85 5 (.slice (some ⟨b, 0, none⟩) n cap) n (flatE L)
  len : L.length = n
  ents : ∀ l ∈ L, EntW l
theorem OwnE.entsAt {w : World} {base b n cap : Nat} {L : List EntD} (h : OwnE w base b n cap L) : EntsAt w (some ⟨b, 0, none⟩) n cap L :=
  entsAt_of_row h.owns h.len h.ents (fun j l hl => flatE_has L j l hl)
theorem OwnE.lt {w : World} {base b n cap : Nat} {L : List EntD} (h : OwnE w base b n cap L) : base ≤ b ∧ b < w.heap.size := h.owns.lt b rfl
theorem OwnE.grown {w w' : World} {base b n cap : Nat} {L : List EntD} {row : Option Nat} (h : OwnE w base b n cap L) (hg : w.grownBy w' row) (hne : some b ≠ row) : OwnE w' base b n cap L :=
  ⟨h.owns.kept hg (.inr hne), h.len, h.ents⟩
theorem OwnE.below {w w' : World} {base b n cap : Nat} {L : List EntD} (h : OwnE w base b n cap L) (hb : Below w.heap.size w w') : OwnE w' base b n cap L := h.grown (row := none) ⟨hb.os, hb.tape, hb.output, hb.size, fun k hk _ => hb.block k hk⟩ (by simp)
theorem OwnE.setCell {w : World} {base b n cap : Nat} {L : List EntD} (h : OwnE w base b n cap L) {p : Addr} (hp : p.block ≠ b) (u : Value) : OwnE (w.setCell p u) base b n cap L :=
  h.grown (row := some p.block) ⟨rfl, rfl, rfl, by simp [World.setCell], fun k _ hk => Below.heap_setCell _ _ _ _ (fun e => hk (by rw [e]))⟩ (fun e => hp (by cases e; rfl))
theorem OwnE.mono {w : World} {base base' b n cap : Nat} {L : List EntD} (h : OwnE w base b n cap L) (hb : base' ≤ base) : OwnE w base' b n cap L := by
  refine ⟨⟨h.owns.1, ?_⟩, h.len, h.ents⟩
  rcases h.owns.2 with h2 | ⟨g, cap, cur, hv, hg, r⟩
  · exact Or.inl h2
  · exact Or.inr ⟨g, cap, cur, hv, Nat.le_trans hb hg, r⟩

set_option maxHeartbeats 1000000 in
theorem toEntS_own (a : Option Addr) (len cap : Nat) (L : List EntD) (w : World) (hL : EntsAt w a len cap L) (hbig : len ≤ 1048576) :
    Calls Tryd.prog 22 #[.slice a len cap] w fun e w' => e = .returned (.slice (some ⟨w.heap.size, 0, none⟩) len len) ∧ OwnE w' w.heap.size w.heap.size len len L ∧ w.heap.size < w'.heap.size ∧ Below w.heap.size w w' := by
  have HLEN : Hid (L.length = len) := hL.length
  have HENTS : Hid (∀ l ∈ L, EntW l) := hL.ents
  have HL : Hid (EntsAt w a len cap L) := hL
  clear hL
  obtain ⟨i0, hi, hz0, hz1, hz2⟩ := info_parts Tryd.infoEnt
  go_enter Tryd.func22, Tryd.ntmps22
  go_wp2_with (at_make; refine wpList_make_full _ rfl _ _ 40 rfl w.heap.size 85 i0 _ 5 Tryd.underlying40 hi hz0 hz1 .i64 .i64 _ _ len rfl rfl (by simp) (by simp) (by rw [hz2]; omega) (by unfold maxLen; omega) (Nat.le_refl _) ?_; intro w1 hown hgrow)
  have hb1 : Below w.heap.size w w1 := (Below.refl _ _).grown hgrow (Nat.le_refl _) (by simp)
  have hsz1 : w.heap.size < w1.heap.size := (hown.lt _ rfl).2
  go_loopw [4] (fun i wr => ∃ (k : Nat) (xs : List Value), k ≤ len ∧ i = .int .i64 k ∧ wr.ownsRow w.heap.size 85 5 (.slice (some ⟨w.heap.size, 0, none⟩) len len) len xs ∧ Below w.heap.size w wr ∧ (∀ j l, j < k → L[j]? = some l → RowEnt xs j l)) (fun i _ => len - (intOf i).toNat)
  case atStart => exact ⟨0, _, Nat.zero_le _, rfl, hown, hb1, fun j l h => absurd h (Nat.not_lt_zero _)⟩
  case round =>
    obtain ⟨k, xs, hk, rfl, ho, hb, hrow⟩ := hrel
    have HROW : Hid (∀ j l, j < k → L[j]? = some l → RowEnt xs j l) := hrow
    clear hrow hown hgrow
    by_cases hlt : k < len
    · obtain ⟨b, off, rfl, hbb⟩ := HL.out.form (by omega)
      obtain ⟨s, q, d, t, n, hg, hlw, g0, g1, g2, g3, g4⟩ := HL.out.ent hb hbb k hlt
      have HG : Hid (L[k]? = some (s, q, d, t, n)) := hg
      clear hg hlw
      have hxl := ho.1
      have HX : Hid (xs.length = len * 5) := hxl
      clear hxl
      have HO : Hid (wr.ownsRow w.heap.size 85 5 (.slice (some ⟨w.heap.size, 0, none⟩) len len) len xs) := ho
      clear ho
      go_wp2_with fail
      refine (toEnt_any _ _ _ _ _ _).mono ?_
      rintro e w2 ⟨rfl, hb2⟩
      have ho2 : w2.ownsRow w.heap.size 85 5 (.slice (some ⟨w.heap.size, 0, none⟩) len len) len xs := HO.out.kept (row := none) ⟨hb2.os, hb2.tape, hb2.output, hb2.size, fun k hk _ => hb2.block k hk⟩ (.inr (by simp [Value.ownBlock]))
      have c0 : ∃ v, w2.cell? ⟨w.heap.size, k * 5, none⟩ = some v := ⟨_, (ho2.cellAt _ (by omega)).trans (List.getElem?_eq_getElem (by rw [HX.out]; omega))⟩
      have c1 : ∃ v, w2.cell? ⟨w.heap.size, k * 5 + 1, none⟩ = some v := ⟨_, (ho2.cellAt _ (by omega)).trans (List.getElem?_eq_getElem (by rw [HX.out]; omega))⟩
      have c2 : ∃ v, w2.cell? ⟨w.heap.size, k * 5 + 2, none⟩ = some v := ⟨_, (ho2.cellAt _ (by omega)).trans (List.getElem?_eq_getElem (by rw [HX.out]; omega))⟩
      have c3 : ∃ v, w2.cell? ⟨w.heap.size, k * 5 + 3, none⟩ = some v := ⟨_, (ho2.cellAt _ (by omega)).trans (List.getElem?_eq_getElem (by rw [HX.out]; omega))⟩
      have c4 : ∃ v, w2.cell? ⟨w.heap.size, k * 5 + 4, none⟩ = some v := ⟨_, (ho2.cellAt _ (by omega)).trans (List.getElem?_eq_getElem (by rw [HX.out]; omega))⟩
      obtain ⟨v0, c0⟩ := c0
      obtain ⟨v1, c1⟩ := c1
      obtain ⟨v2, c2⟩ := c2
      obtain ⟨v3, c3⟩ := c3
      obtain ⟨v4, c4⟩ := c4
      have f0 : w2.frozen? ⟨w.heap.size, k * 5, none⟩ = false := ho2.frozenAt _
      have f1 : w2.frozen? ⟨w.heap.size, k * 5 + 1, none⟩ = false := ho2.frozenAt _
      have f2 : w2.frozen? ⟨w.heap.size, k * 5 + 2, none⟩ = false := ho2.frozenAt _
      have f3 : w2.frozen? ⟨w.heap.size, k * 5 + 3, none⟩ = false := ho2.frozenAt _
      have f4 : w2.frozen? ⟨w.heap.size, k * 5 + 4, none⟩ = false := ho2.frozenAt _
      have HO2 : Hid (w2.ownsRow w.heap.size 85 5 (.slice (some ⟨w.heap.size, 0, none⟩) len len) len xs) := ho2
      clear ho2
      go_wp2
      go_roundw
      case rel =>
        have t0 := HO2.out.stored (k * 5) (.string s)
        have t1 := t0.1.stored (k * 5 + 1) (.int .i64 q)
        have t2 := t1.1.stored (k * 5 + 2) (.int .i64 d)
        have t3 := t2.1.stored (k * 5 + 3) (.string t)
        have t4 := t3.1.stored (k * 5 + 4) (.int .i64 n)
        refine ⟨k + 1, _, by omega, by go_num, t4.1, ?_, ?_⟩
        · exact (((((hb.trans (hb2.mono hb.size)).setCell (p := ⟨w.heap.size, _, none⟩) (Nat.le_refl _) _).setCell (p := ⟨w.heap.size, _, none⟩) (Nat.le_refl _) _).setCell (p := ⟨w.heap.size, _, none⟩) (Nat.le_refl _) _).setCell (p := ⟨w.heap.size, _, none⟩) (Nat.le_refl _) _).setCell (p := ⟨w.heap.size, _, none⟩) (Nat.le_refl _) _
        · intro j l hj hl
          by_cases hjk : j = k
          · subst hjk
            rw [HG.out] at hl
            cases hl
            exact rowEnt_same s t q d n (by rw [HX.out]; omega)
          · exact rowEnt_other (HROW.out j l (by omega) hl) hjk _ _ _ _ _
      case measure => simp [intOf]; omega
    · go_wp2
      go_ret
      exact ⟨rfl, ⟨by rw [← row_flat (xs := xs) (L := L) (by rw [HLEN.out]; exact ho.1) (fun j l hl => HROW.out j l (by have := (List.getElem?_eq_some_iff.1 hl).1; rw [HLEN.out] at this; omega) hl)]; exact ho, HLEN.out, HENTS.out⟩, (ho.lt _ rfl).2, hb⟩

theorem EntsAt.sub {w : World} {b off len cap i j : Nat} {L : List EntD} (h : EntsAt w (some ⟨b, off, none⟩) len cap L) (hij : i ≤ j) (hj : j ≤ len) : EntsAt w (some ⟨b, off + i * 5, none⟩) (j - i) (cap - i) ((L.drop i).take (j - i)) where
  length := by have := h.length; simp; omega
  room := by have := h.room; omega
  big := by have := h.big; omega
  ents := fun l hl => h.ents l (List.mem_of_mem_drop (List.mem_of_mem_take hl))
  nil := fun e => by cases e
  lies := fun x e hp => by cases e; exact h.lies ⟨b, off, none⟩ rfl (by omega)
  cells := fun x e k hk => by
    cases e
    have hk' : i + k < L.length := by simp at hk; omega
    have h1 := h.cells ⟨b, off, none⟩ rfl (i + k) hk'
    have e1 : off + (i + k) * 5 = off + i * 5 + k * 5 := by omega
    simp only [e1] at h1
    simpa using h1

end Go.Proofs.YtfblpbihpmhgjaaDoor
