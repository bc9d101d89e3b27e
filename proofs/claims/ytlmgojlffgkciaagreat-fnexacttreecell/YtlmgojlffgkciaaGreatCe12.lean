/-
  The laws' own helpers over a list of entries (its size, its copy, that two are the same), by walks of their Go text.
  A list of entries in memory of the call's own; the laws' own copies of lists and runs, which lie so, by walks of their Go text.
-/
import Derived.Deep.RegionWith
import Derived.Deep.LoopGhost
import Derived.Test.YtlmgojlffgkciaaGreatCe01
namespace Go.Proofs.YtlmgojlffgkciaaGreat
open Go.RowKit
set_option maxHeartbeats 400000 in
theorem eqEnt_same (s t : ByteArray) (q d n : Int) (w : World) :
    Calls Tryz.prog 60 #[.agg #[.string s, .int .i64 q, .int .i64 d, .string t, .int .i64 n], .agg #[.string s, .int .i64 q, .int .i64 d, .string t, .int .i64 n]] w fun e w' => e = .returned (.bool true) ∧ Below w.heap.size w w' := by
  go_enter Tryz.func60, Tryz.ntmps60
  go_wp2
  go_ret
  exact ⟨rfl, ((Below.refl _ _).alloc (Nat.le_refl _) _).alloc (by simp) _⟩
theorem Tryz.infoEnt : (Tryz.prog.info? 78).map (fun i => (i.zero, i.size, i.bytes)) = some (some (.agg #[.string ByteArray.empty, .int .i64 0, .int .i64 0, .string ByteArray.empty, .int .i64 0]), 5, 56) := by kernel_rfl
def RowEnt (xs : List Value) (j : Nat) (l : EntD) : Prop := xs[j * 5]? = some (.string l.1) ∧ xs[j * 5 + 1]? = some (.int .i64 l.2.1) ∧ xs[j * 5 + 2]? = some (.int .i64 l.2.2.1) ∧ xs[j * 5 + 3]? = some (.string l.2.2.2.1) ∧ xs[j * 5 + 4]? = some (.int .i64 l.2.2.2.2)
theorem rowEnt_other {xs : List Value} {j k : Nat} {l : EntD} (h : RowEnt xs j l) (hne : j ≠ k) (u0 u1 u2 u3 u4 : Value) : RowEnt (((((xs.set (k * 5) u0).set (k * 5 + 1) u1).set (k * 5 + 2) u2).set (k * 5 + 3) u3).set (k * 5 + 4) u4) j l := by
  obtain ⟨h0, h1, h2, h3, h4⟩ := h
  refine ⟨?_, ?_, ?_, ?_, ?_⟩ <;> (repeat rw [List.getElem?_set_ne (by omega)]) <;> assumption
theorem rowEnt_same {xs : List Value} {k : Nat} (s t : ByteArray) (q d n : Int) (h : k * 5 + 4 < xs.length) : RowEnt (((((xs.set (k * 5) (.string s)).set (k * 5 + 1) (.int .i64 q)).set (k * 5 + 2) (.int .i64 d)).set (k * 5 + 3) (.string t)).set (k * 5 + 4) (.int .i64 n)) k (s, q, d, t, n) := by
  refine ⟨?_, ?_, ?_, ?_, ?_⟩
  · rw [List.getElem?_set_ne (by omega), List.getElem?_set_ne (by omega), List.getElem?_set_ne (by omega), List.getElem?_set_ne (by omega), List.getElem?_set_self (by omega)]
  · rw [List.getElem?_set_ne (by omega), List.getElem?_set_ne (by omega), List.getElem?_set_ne (by omega), List.getElem?_set_self (by simp; omega)]
  · rw [List.getElem?_set_ne (by omega), List.getElem?_set_ne (by omega), List.getElem?_set_self (by simp; omega)]
  · rw [List.getElem?_set_ne (by omega), List.getElem?_set_self (by simp; omega)]
  · rw [List.getElem?_set_self (by simp; omega)]
theorem entsAt_of_row {w : World} {base g n cap : Nat} {xs : List Value} {L : List EntD} (h : w.ownsRow base 78 5 (.slice (some ⟨g, 0, none⟩) n cap) n xs) (hn : L.length = n) (hw : ∀ l ∈ L, EntW l)
    (hh : ∀ j l, L[j]? = some l → RowEnt xs j l) : EntsAt w (some ⟨g, 0, none⟩) n cap L := by
  have hlt := (h.lt g rfl).2
  have hrc : n ≤ cap ∧ cap ≤ maxLen := by
    rcases h.2 with ⟨h', _⟩ | ⟨g', cap', cur, h', _, _, hnc, hcm, _, _⟩
    · simp at h'
    · simp only [Value.slice.injEq, Option.some.injEq, Addr.mk.injEq, and_true, true_and] at h'
      obtain ⟨rfl, rfl⟩ := h'
      exact ⟨hnc, hcm⟩
  refine ⟨hn, hrc.1, hrc.2, hw, (fun e => by cases e), ?_, ?_⟩
  · rintro x e _
    cases e
    exact ⟨hlt, rfl⟩
  · rintro x e i hi
    cases e
    obtain ⟨r0, r1, r2, r3, r4⟩ := hh i L[i] (List.getElem?_eq_getElem hi)
    rw [hn] at hi
    simp only [Nat.zero_add]
    exact ⟨(h.cellAt _ (by omega)).trans r0, (h.cellAt _ (by omega)).trans r1, (h.cellAt _ (by omega)).trans r2, (h.cellAt _ (by omega)).trans r3, (h.cellAt _ (by omega)).trans r4⟩
set_option maxHeartbeats 1000000 in
theorem toEntS_any (a : Option Addr) (len cap : Nat) (L : List EntD) (w : World) (hL : EntsAt w a len cap L) (hbig : len ≤ 1048576) :
    Calls Tryz.prog 24 #[.slice a len cap] w fun e w' => e = .returned (.slice (some ⟨w.heap.size, 0, none⟩) len len) ∧ EntsAt w' (some ⟨w.heap.size, 0, none⟩) len len L ∧ w.heap.size < w'.heap.size ∧ Below w.heap.size w w' := by
  have HLEN : Hid (L.length = len) := hL.length
  have HENTS : Hid (∀ l ∈ L, EntW l) := hL.ents
  have HL : Hid (EntsAt w a len cap L) := hL
  clear hL
  obtain ⟨i0, hi, hz0, hz1, hz2⟩ := info_parts Tryz.infoEnt
  go_enter Tryz.func24, Tryz.ntmps24
  go_wp2_with (at_make; refine wpList_make_full _ rfl _ _ 28 rfl w.heap.size 78 i0 _ 5 Tryz.underlying28 hi hz0 hz1 .i64 .i64 _ _ len rfl rfl (by simp) (by simp) (by rw [hz2]; omega) (by unfold maxLen; omega) (Nat.le_refl _) ?_; intro w1 hown hgrow)
  have hb1 : Below w.heap.size w w1 := (Below.refl _ _).grown hgrow (Nat.le_refl _) (by simp)
  have hsz1 : w.heap.size < w1.heap.size := (hown.lt _ rfl).2
  go_loopw [4] (fun i wr => ∃ (k : Nat) (xs : List Value), k ≤ len ∧ i = .int .i64 k ∧ wr.ownsRow w.heap.size 78 5 (.slice (some ⟨w.heap.size, 0, none⟩) len len) len xs ∧ Below w.heap.size w wr ∧ (∀ j l, j < k → L[j]? = some l → RowEnt xs j l)) (fun i _ => len - (intOf i).toNat)
  case atStart => exact ⟨0, _, Nat.zero_le _, rfl, hown, hb1, fun j l h => absurd h (Nat.not_lt_zero _)⟩
  case round =>
    obtain ⟨k, xs, hk, rfl, ho, hb, hrow⟩ := hrel
    have HROW : Hid (∀ j l, j < k → L[j]? = some l → RowEnt xs j l) := hrow
    clear hrow hown hgrow
    by_cases hlt : k < len
    · obtain ⟨b, off, rfl, hbb⟩ := HL.out.form (by omega)
      obtain ⟨s, q, d, t, n, hg, hlw, g0, g1, g2, g3, g4⟩ := HL.out.ent hb hbb k hlt
      have HG : Hid (L[k]? = some (s, q, d, t, n)) := hg
      clear hg hlw
      have hxl := ho.1
      have HX : Hid (xs.length = len * 5) := hxl
      clear hxl
      have HO : Hid (wr.ownsRow w.heap.size 78 5 (.slice (some ⟨w.heap.size, 0, none⟩) len len) len xs) := ho
      clear ho
      go_wp2_with fail
      refine (toEnt_any _ _ _ _ _ _).mono ?_
      rintro e w2 ⟨rfl, hb2⟩
      have ho2 : w2.ownsRow w.heap.size 78 5 (.slice (some ⟨w.heap.size, 0, none⟩) len len) len xs := HO.out.kept (row := none) ⟨hb2.os, hb2.tape, hb2.output, hb2.size, fun k hk _ => hb2.block k hk⟩ (.inr (by simp [Value.ownBlock]))
      have c0 : ∃ v, w2.cell? ⟨w.heap.size, k * 5, none⟩ = some v := ⟨_, (ho2.cellAt _ (by omega)).trans (List.getElem?_eq_getElem (by rw [HX.out]; omega))⟩
      have c1 : ∃ v, w2.cell? ⟨w.heap.size, k * 5 + 1, none⟩ = some v := ⟨_, (ho2.cellAt _ (by omega)).trans (List.getElem?_eq_getElem (by rw [HX.out]; omega))⟩
      have c2 : ∃ v, w2.cell? ⟨w.heap.size, k * 5 + 2, none⟩ = some v := ⟨_, (ho2.cellAt _ (by omega)).trans (List.getElem?_eq_getElem (by rw [HX.out]; omega))⟩
      have c3 : ∃ v, w2.cell? ⟨w.heap.size, k * 5 + 3, none⟩ = some v := ⟨_, (ho2.cellAt _ (by omega)).trans (List.getElem?_eq_getElem (by rw [HX.out]; omega))⟩
      have c4 : ∃ v, w2.cell? ⟨w.heap.size, k * 5 + 4, none⟩ = some v := ⟨_, (ho2.cellAt _ (by omega)).trans (List.getElem?_eq_getElem (by rw [HX.out]; omega))⟩
      obtain ⟨v0, c0⟩ := c0
      obtain ⟨v1, c1⟩ := c1
      obtain ⟨v2, c2⟩ := c2
      obtain ⟨v3, c3⟩ := c3
      obtain ⟨v4, c4⟩ := c4
      have f0 : w2.frozen? ⟨w.heap.size, k * 5, none⟩ = false := ho2.frozenAt _
      have f1 : w2.frozen? ⟨w.heap.size, k * 5 + 1, none⟩ = false := ho2.frozenAt _
      have f2 : w2.frozen? ⟨w.heap.size, k * 5 + 2, none⟩ = false := ho2.frozenAt _
      have f3 : w2.frozen? ⟨w.heap.size, k * 5 + 3, none⟩ = false := ho2.frozenAt _
      have f4 : w2.frozen? ⟨w.heap.size, k * 5 + 4, none⟩ = false := ho2.frozenAt _
      have HO2 : Hid (w2.ownsRow w.heap.size 78 5 (.slice (some ⟨w.heap.size, 0, none⟩) len len) len xs) := ho2
      clear ho2
      go_wp2
      go_roundw
      case rel =>
        have t0 := HO2.out.stored (k * 5) (.string s)
        have t1 := t0.1.stored (k * 5 + 1) (.int .i64 q)
        have t2 := t1.1.stored (k * 5 + 2) (.int .i64 d)
        have t3 := t2.1.stored (k * 5 + 3) (.string t)
        have t4 := t3.1.stored (k * 5 + 4) (.int .i64 n)
        refine ⟨k + 1, _, by omega, by go_num, t4.1, ?_, ?_⟩
        · exact (((((hb.trans (hb2.mono hb.size)).setCell (p := ⟨w.heap.size, _, none⟩) (Nat.le_refl _) _).setCell (p := ⟨w.heap.size, _, none⟩) (Nat.le_refl _) _).setCell (p := ⟨w.heap.size, _, none⟩) (Nat.le_refl _) _).setCell (p := ⟨w.heap.size, _, none⟩) (Nat.le_refl _) _).setCell (p := ⟨w.heap.size, _, none⟩) (Nat.le_refl _) _
        · intro j l hj hl
          by_cases hjk : j = k
          · subst hjk
            rw [HG.out] at hl
            cases hl
            exact rowEnt_same s t q d n (by rw [HX.out]; omega)
          · exact rowEnt_other (HROW.out j l (by omega) hl) hjk _ _ _ _ _
      case measure => simp [intOf]; omega
    · go_wp2
      go_ret
      exact ⟨rfl, entsAt_of_row ho HLEN.out HENTS.out (fun j l hl => HROW.out j l (by have := (List.getElem?_eq_some_iff.1 hl).1; rw [HLEN.out] at this; omega) hl), (ho.lt _ rfl).2, hb⟩
set_option maxHeartbeats 800000 in
theorem eqEntS_same (b1 o1 b2 o2 len cap1 cap2 : Nat) (L : List EntD) (w : World) (h1 : EntsAt w (some ⟨b1, o1, none⟩) len cap1 L) (h2 : EntsAt w (some ⟨b2, o2, none⟩) len cap2 L) :
    Calls Tryz.prog 26 #[.slice (some ⟨b1, o1, none⟩) len cap1, .slice (some ⟨b2, o2, none⟩) len cap2] w fun e w' => e = .returned (.bool true) ∧ Below w.heap.size w w' := by
  have hbl := h1.room
  have hbc := h1.big
  unfold maxLen at hbc
  have H1 : Hid (EntsAt w (some ⟨b1, o1, none⟩) len cap1 L) := h1
  have H2 : Hid (EntsAt w (some ⟨b2, o2, none⟩) len cap2 L) := h2
  clear h1 h2
  go_enter Tryz.func26, Tryz.ntmps26
  go_wp2
  go_loopw [5] (fun i wr => ∃ k : Nat, k ≤ len ∧ i = .int .i64 k ∧ Below w.heap.size w wr) (fun i _ => len - (intOf i).toNat)
  case atStart => exact ⟨0, Nat.zero_le _, rfl, Below.refl _ _⟩
  case round =>
    obtain ⟨k, hk, rfl, hb⟩ := hrel
    by_cases hlt : k < len
    · obtain ⟨s, q, d, t, n, hg, _, g0, g1, g2, g3, g4⟩ := H1.out.ent hb (H1.out.lies _ rfl (by omega)).1 k hlt
      obtain ⟨s', q', d', t', n', hg', _, p0, p1, p2, p3, p4⟩ := H2.out.ent hb (H2.out.lies _ rfl (by omega)).1 k hlt
      rw [hg] at hg'
      cases hg'
      clear hg
      have hltI : (k : Int) < (len : Int) := by omega
      go_wp2_with fail
      go_region_with (go_at_call 60; refine (eqEnt_same _ _ _ _ _ _).mono ?_; rintro e w1 ⟨rfl, hb1⟩)
      all_goals
        go_wp2
        go_roundw
        case rel => exact ⟨k + 1, by omega, by go_num, hb.drew.trans (hb1.mono hb.size)⟩
        case measure => simp [intOf]; omega
    · go_wp2
      go_ret
      exact ⟨rfl, hb⟩
end Go.Proofs.YtlmgojlffgkciaaGreat

namespace Go.Proofs.YtlmgojlffgkciaaGreat
open Go.RowKit
def entCells (e : EntD) : List Value := [.string e.1, .int .i64 e.2.1, .int .i64 e.2.2.1, .string e.2.2.2.1, .int .i64 e.2.2.2.2]
def flatE (L : List EntD) : List Value := L.flatMap entCells
theorem flatE_append (A B : List EntD) : flatE (A ++ B) = flatE A ++ flatE B := by simp [flatE]
theorem flatE_len (L : List EntD) : (flatE L).length = L.length * 5 := by
  induction L with
  | nil => rfl
  | cons l r ih => simp [flatE, entCells] at ih ⊢; omega
theorem flatE_cons (l : EntD) (r : List EntD) : flatE (l :: r) = .string l.1 :: .int .i64 l.2.1 :: .int .i64 l.2.2.1 :: .string l.2.2.2.1 :: .int .i64 l.2.2.2.2 :: flatE r := rfl
theorem flatE_has (L : List EntD) (j : Nat) (l : EntD) (h : L[j]? = some l) : RowEnt (flatE L) j l := by
  induction L generalizing j with
  | nil => simp at h
  | cons a r ih =>
    rw [flatE_cons]
    cases j with
    | zero => simp at h; subst h; exact ⟨rfl, rfl, rfl, rfl, rfl⟩
    | succ j =>
      simp at h
      obtain ⟨h0, h1, h2, h3, h4⟩ := ih j h
      refine ⟨?_, ?_, ?_, ?_, ?_⟩
      · rw [show (j + 1) * 5 = j * 5 + 1 + 1 + 1 + 1 + 1 by omega]; simpa using h0
      · rw [show (j + 1) * 5 + 1 = j * 5 + 1 + 1 + 1 + 1 + 1 + 1 by omega]; simpa using h1
      · rw [show (j + 1) * 5 + 2 = j * 5 + 2 + 1 + 1 + 1 + 1 + 1 by omega]; simpa using h2
      · rw [show (j + 1) * 5 + 3 = j * 5 + 3 + 1 + 1 + 1 + 1 + 1 by omega]; simpa using h3
      · rw [show (j + 1) * 5 + 4 = j * 5 + 4 + 1 + 1 + 1 + 1 + 1 by omega]; simpa using h4
theorem row_flat {xs : List Value} {L : List EntD} (hx : xs.length = L.length * 5) (hh : ∀ j l, L[j]? = some l → RowEnt xs j l) : xs = flatE L := by
  apply List.ext_getElem?
  intro i
  by_cases hi : i < L.length * 5
  · have hj : i / 5 < L.length := by omega
    obtain ⟨a0, a1, a2, a3, a4⟩ := hh (i / 5) L[i / 5] (List.getElem?_eq_getElem hj)
    obtain ⟨b0, b1, b2, b3, b4⟩ := flatE_has L (i / 5) L[i / 5] (List.getElem?_eq_getElem hj)
    have : i = i / 5 * 5 ∨ i = i / 5 * 5 + 1 ∨ i = i / 5 * 5 + 2 ∨ i = i / 5 * 5 + 3 ∨ i = i / 5 * 5 + 4 := by omega
    rcases this with e | e | e | e | e
    · rw [e, a0, b0]
    · rw [e, a1, b1]
    · rw [e, a2, b2]
    · rw [e, a3, b3]
    · rw [e, a4, b4]
  · rw [List.getElem?_eq_none (by omega), List.getElem?_eq_none (by rw [flatE_len]; omega)]
theorem flatE_one (L : List EntD) : ∀ u ∈ flatE L, u.oneCell' = true := by
  intro u hu
  simp only [flatE, List.mem_flatMap, entCells, List.mem_cons, List.not_mem_nil, or_false] at hu
  obtain ⟨l, _, rfl | rfl | rfl | rfl | rfl⟩ := hu <;> rfl
structure OwnE (w : World) (base b n cap : Nat) (L : List EntD) : Prop where
  owns : w.ownsRow base 78 5 (.slice (some ⟨b, 0, none⟩) n cap) n (flatE L)
  len : L.length = n
  ents : ∀ l ∈ L, EntW l
theorem OwnE.entsAt {w : World} {base b n cap : Nat} {L : List EntD} (h : OwnE w base b n cap L) : EntsAt w (some ⟨b, 0, none⟩) n cap L :=
  entsAt_of_row h.owns h.len h.ents (fun j l hl => flatE_has L j l hl)
theorem OwnE.lt {w : World} {base b n cap : Nat} {L : List EntD} (h : OwnE w base b n cap L) : base ≤ b ∧ b < w.heap.size := h.owns.lt b rfl
theorem OwnE.grown {w w' : World} {base b n cap : Nat} {L : List EntD} {row : Option Nat} (h : OwnE w base b n cap L) (hg : w.grownBy w' row) (hne : some b ≠ row) : OwnE w' base b n cap L :=
  ⟨h.owns.kept hg (.inr hne), h.len, h.ents⟩
theorem OwnE.below {w w' : World} {base b n cap : Nat} {L : List EntD} (h : OwnE w base b n cap L) (hb : Below w.heap.size w w') : OwnE w' base b n cap L := h.grown (row := none) ⟨hb.os, hb.tape, hb.output, hb.size, fun k hk _ => hb.block k hk⟩ (by simp)
theorem OwnE.setCell {w : World} {base b n cap : Nat} {L : List EntD} (h : OwnE w base b n cap L) {p : Addr} (hp : p.block ≠ b) (u : Value) : OwnE (w.setCell p u) base b n cap L :=
  h.grown (row := some p.block) ⟨rfl, rfl, rfl, by simp [World.setCell], fun k _ hk => Below.heap_setCell _ _ _ _ (fun e => hk (by rw [e]))⟩ (fun e => hp (by cases e; rfl))
theorem OwnE.mono {w : World} {base base' b n cap : Nat} {L : List EntD} (h : OwnE w base b n cap L) (hb : base' ≤ base) : OwnE w base' b n cap L := by
  refine ⟨⟨h.owns.1, ?_⟩, h.len, h.ents⟩
  rcases h.owns.2 with h2 | ⟨g, cap, cur, hv, hg, r⟩
  · exact Or.inl h2
  · exact Or.inr ⟨g, cap, cur, hv, Nat.le_trans hb hg, r⟩
set_option maxHeartbeats 1000000 in
theorem toEntS_own (a : Option Addr) (len cap : Nat) (L : List EntD) (w : World) (hL : EntsAt w a len cap L) (hbig : len ≤ 1048576) :
    Calls Tryz.prog 24 #[.slice a len cap] w fun e w' => e = .returned (.slice (some ⟨w.heap.size, 0, none⟩) len len) ∧ OwnE w' w.heap.size w.heap.size len len L ∧ w.heap.size < w'.heap.size ∧ Below w.heap.size w w' := by
  have HLEN : Hid (L.length = len) := hL.length
  have HENTS : Hid (∀ l ∈ L, EntW l) := hL.ents
  have HL : Hid (EntsAt w a len cap L) := hL
  clear hL
  obtain ⟨i0, hi, hz0, hz1, hz2⟩ := info_parts Tryz.infoEnt
  go_enter Tryz.func24, Tryz.ntmps24
  go_wp2_with (at_make; refine wpList_make_full _ rfl _ _ 28 rfl w.heap.size 78 i0 _ 5 Tryz.underlying28 hi hz0 hz1 .i64 .i64 _ _ len rfl rfl (by simp) (by simp) (by rw [hz2]; omega) (by unfold maxLen; omega) (Nat.le_refl _) ?_; intro w1 hown hgrow)
  have hb1 : Below w.heap.size w w1 := (Below.refl _ _).grown hgrow (Nat.le_refl _) (by simp)
  have hsz1 : w.heap.size < w1.heap.size := (hown.lt _ rfl).2
  go_loopw [4] (fun i wr => ∃ (k : Nat) (xs : List Value), k ≤ len ∧ i = .int .i64 k ∧ wr.ownsRow w.heap.size 78 5 (.slice (some ⟨w.heap.size, 0, none⟩) len len) len xs ∧ Below w.heap.size w wr ∧ (∀ j l, j < k → L[j]? = some l → RowEnt xs j l)) (fun i _ => len - (intOf i).toNat)
  case atStart => exact ⟨0, _, Nat.zero_le _, rfl, hown, hb1, fun j l h => absurd h (Nat.not_lt_zero _)⟩
  case round =>
    obtain ⟨k, xs, hk, rfl, ho, hb, hrow⟩ := hrel
    have HROW : Hid (∀ j l, j < k → L[j]? = some l → RowEnt xs j l) := hrow
    clear hrow hown hgrow
    by_cases hlt : k < len
    · obtain ⟨b, off, rfl, hbb⟩ := HL.out.form (by omega)
      obtain ⟨s, q, d, t, n, hg, hlw, g0, g1, g2, g3, g4⟩ := HL.out.ent hb hbb k hlt
      have HG : Hid (L[k]? = some (s, q, d, t, n)) := hg
      clear hg hlw
      have hxl := ho.1
      have HX : Hid (xs.length = len * 5) := hxl
      clear hxl
      have HO : Hid (wr.ownsRow w.heap.size 78 5 (.slice (some ⟨w.heap.size, 0, none⟩) len len) len xs) := ho
      clear ho
      go_wp2_with fail
      refine (toEnt_any _ _ _ _ _ _).mono ?_
      rintro e w2 ⟨rfl, hb2⟩
      have ho2 : w2.ownsRow w.heap.size 78 5 (.slice (some ⟨w.heap.size, 0, none⟩) len len) len xs := HO.out.kept (row := none) ⟨hb2.os, hb2.tape, hb2.output, hb2.size, fun k hk _ => hb2.block k hk⟩ (.inr (by simp [Value.ownBlock]))
      have c0 : ∃ v, w2.cell? ⟨w.heap.size, k * 5, none⟩ = some v := ⟨_, (ho2.cellAt _ (by omega)).trans (List.getElem?_eq_getElem (by rw [HX.out]; omega))⟩
      have c1 : ∃ v, w2.cell? ⟨w.heap.size, k * 5 + 1, none⟩ = some v := ⟨_, (ho2.cellAt _ (by omega)).trans (List.getElem?_eq_getElem (by rw [HX.out]; omega))⟩
      have c2 : ∃ v, w2.cell? ⟨w.heap.size, k * 5 + 2, none⟩ = some v := ⟨_, (ho2.cellAt _ (by omega)).trans (List.getElem?_eq_getElem (by rw [HX.out]; omega))⟩
      have c3 : ∃ v, w2.cell? ⟨w.heap.size, k * 5 + 3, none⟩ = some v := ⟨_, (ho2.cellAt _ (by omega)).trans (List.getElem?_eq_getElem (by rw [HX.out]; omega))⟩
      have c4 : ∃ v, w2.cell? ⟨w.heap.size, k * 5 + 4, none⟩ = some v := ⟨_, (ho2.cellAt _ (by omega)).trans (List.getElem?_eq_getElem (by rw [HX.out]; omega))⟩
      obtain ⟨v0, c0⟩ := c0
      obtain ⟨v1, c1⟩ := c1
      obtain ⟨v2, c2⟩ := c2
      obtain ⟨v3, c3⟩ := c3
      obtain ⟨v4, c4⟩ := c4
      have f0 : w2.frozen? ⟨w.heap.size, k * 5, none⟩ = false := ho2.frozenAt _
      have f1 : w2.frozen? ⟨w.heap.size, k * 5 + 1, none⟩ = false := ho2.frozenAt _
      have f2 : w2.frozen? ⟨w.heap.size, k * 5 + 2, none⟩ = false := ho2.frozenAt _
      have f3 : w2.frozen? ⟨w.heap.size, k * 5 + 3, none⟩ = false := ho2.frozenAt _
      have f4 : w2.frozen? ⟨w.heap.size, k * 5 + 4, none⟩ = false := ho2.frozenAt _
      have HO2 : Hid (w2.ownsRow w.heap.size 78 5 (.slice (some ⟨w.heap.size, 0, none⟩) len len) len xs) := ho2
      clear ho2
      go_wp2
      go_roundw
      case rel =>
        have t0 := HO2.out.stored (k * 5) (.string s)
        have t1 := t0.1.stored (k * 5 + 1) (.int .i64 q)
        have t2 := t1.1.stored (k * 5 + 2) (.int .i64 d)
        have t3 := t2.1.stored (k * 5 + 3) (.string t)
        have t4 := t3.1.stored (k * 5 + 4) (.int .i64 n)
        refine ⟨k + 1, _, by omega, by go_num, t4.1, ?_, ?_⟩
        · exact (((((hb.trans (hb2.mono hb.size)).setCell (p := ⟨w.heap.size, _, none⟩) (Nat.le_refl _) _).setCell (p := ⟨w.heap.size, _, none⟩) (Nat.le_refl _) _).setCell (p := ⟨w.heap.size, _, none⟩) (Nat.le_refl _) _).setCell (p := ⟨w.heap.size, _, none⟩) (Nat.le_refl _) _).setCell (p := ⟨w.heap.size, _, none⟩) (Nat.le_refl _) _
        · intro j l hj hl
          by_cases hjk : j = k
          · subst hjk
            rw [HG.out] at hl
            cases hl
            exact rowEnt_same s t q d n (by rw [HX.out]; omega)
          · exact rowEnt_other (HROW.out j l (by omega) hl) hjk _ _ _ _ _
      case measure => simp [intOf]; omega
    · go_wp2
      go_ret
      exact ⟨rfl, ⟨by rw [← row_flat (xs := xs) (L := L) (by rw [HLEN.out]; exact ho.1) (fun j l hl => HROW.out j l (by have := (List.getElem?_eq_some_iff.1 hl).1; rw [HLEN.out] at this; omega) hl)]; exact ho, HLEN.out, HENTS.out⟩, (ho.lt _ rfl).2, hb⟩
theorem EntsAt.sub {w : World} {b off len cap i j : Nat} {L : List EntD} (h : EntsAt w (some ⟨b, off, none⟩) len cap L) (hij : i ≤ j) (hj : j ≤ len) : EntsAt w (some ⟨b, off + i * 5, none⟩) (j - i) (cap - i) ((L.drop i).take (j - i)) where
  length := by have := h.length; simp; omega
  room := by have := h.room; omega
  big := by have := h.big; omega
  ents := fun l hl => h.ents l (List.mem_of_mem_drop (List.mem_of_mem_take hl))
  nil := fun e => by cases e
  lies := fun x e hp => by cases e; exact h.lies ⟨b, off, none⟩ rfl (by omega)
  cells := fun x e k hk => by
    cases e
    have hk' : i + k < L.length := by simp at hk; omega
    have h1 := h.cells ⟨b, off, none⟩ rfl (i + k) hk'
    have e1 : off + (i + k) * 5 = off + i * 5 + k * 5 := by omega
    simp only [e1] at h1
    simpa using h1
end Go.Proofs.YtlmgojlffgkciaaGreat
