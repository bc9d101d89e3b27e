/-
  Lists of lists of entries: how those that came in are opened, and the laws' own helpers over them (size, copy, sameness, marks), by walks of their Go text.
-/
import Derived.Test.YtkdalacclafihaaParts
import Derived.Test.YtkdalacclafihaaEntsO
import Derived.Test.YtkdalacclafihaaInts
import Derived.Test.YtkdalacclafihaaOwnM
import Derived.Test.YtkdalacclafihaaDraw2
namespace Go.Proofs.Ytkdalacclafihaa
open Go.RowKit Go.Joins Go.ChangeShapes Go.WideShapes

set_option maxRecDepth 100000 in
/-- Lists that came in. -/
theorem open_partsT {H : Type} {enc : TypeId × Value → H} {W : World} {base n0 : Nat} {v : Value} {x : DataW H × List MemPlace} {held : Bool}
    (hf : DataW.trod enc Try.prog W base (fun _ => true) held n0 22 [v] = some x) :
    ∃ (a : Option Addr) (len cap : Nat) (P : List (List EntD)), v = .slice a len cap ∧ PartsAt W a len cap P := by
  have r5 : Try.prog.cellsOf 50 = 1 := by kernel_rfl
  rcases Deep.open_slice Try.underlying22 hf with ⟨hcs, _⟩ | ⟨a, len, cap, mm, n, D, Pl, hcs, hb, hl, hm, hmm, _, hx⟩
  · simp at hcs
    subst hcs
    exact ⟨none, 0, 0, [], rfl, ⟨rfl, Nat.le_refl _, Nat.zero_le _, fun _ => rfl, (fun x e => by cases e), (fun x e => by cases e)⟩⟩
  · simp at hcs
    subst hcs
    simp at hmm
    rw [r5] at hx
    have each : ∀ i, i < mm → ∃ B : List EntD, ∃ s n c, W.cell? (a.add i) = some (.slice s n c) ∧ EntsAt W s n c B := by
      intro i hi
      obtain ⟨cs', g1, g2⟩ := hx i hi
      obtain ⟨_, hlen, hcell⟩ := World.cells?_some g1
      match cs', hlen with
      | [u0], _ =>
        have k0 := hcell 0 (by omega)
        rw [Deep.add_add] at k0
        obtain ⟨s, n, c, B, e0, hB⟩ := open_ents g2
        subst e0
        exact ⟨B, s, n, c, by simpa using k0, hB⟩
    obtain ⟨f, hf'⟩ := Deep.choose_lt each
    have spot : 0 < len → a.spot = none := fun hp => by
      obtain ⟨s, n, c, c0, _⟩ := hf' 0 (by omega)
      simpa [Addr.add] using World.cell?_spot c0
    refine ⟨some a, len, cap, (List.range len).map f, rfl, ⟨by simp, hl, hm, (fun e => by cases e), ?_, ?_⟩⟩
    · rintro x e hp
      cases e
      refine ⟨?_, spot hp⟩
      obtain ⟨s, n, c, c0, _⟩ := hf' 0 (by omega)
      have := World.block_lt_of_cell? _ _ c0
      simpa [Addr.add] using this
    · rintro x e i hi
      cases e
      simp at hi
      obtain ⟨s, n, c, g0, g2⟩ := hf' i (by omega)
      rw [plain_at (spot (by omega))] at g0
      simp only [List.getElem_map, List.getElem_range]
      exact ⟨s, n, c, g0, g2⟩
set_option maxRecDepth 100000 in
theorem open_parts {H : Type} {enc : TypeId × Value → H} {W : World} {b0 base : Nat} {v : Value} {d : DataW H} {p : List MemPlace} {held : Bool}
    (hv : Value.okWide Try.prog W .any b0 22 v) (h : DataW.Trod enc Try.prog W base (fun _ => true) held 22 v d p) :
    ∃ (a : Option Addr) (len cap : Nat) (P : List (List EntD)), v = .slice a len cap ∧ PartsAt W a len cap P := by
  obtain ⟨a1, len1, cap1, rfl⟩ := okWide_slice Try.underlying22 hv
  obtain ⟨fuel, hf⟩ := h
  exact open_partsT hf

/-- Texts that fit. -/
def SmT (e : EntD) : Prop := e.1.size ≤ 281474976710656 ∧ e.2.2.2.1.size ≤ 281474976710656

set_option maxHeartbeats 400000 in
/-- As szEntS_any, with the sum, and with what it says of the texts. -/
theorem szEntS_sum (a : Option Addr) (len cap : Nat) (L : List EntD) (left : Int) (w : World) (hL : EntsAt w a len cap L) (h0 : 0 ≤ left) (h1 : left ≤ 1048576) :
    Calls Try.prog 28 #[.slice a len cap, .int .i64 left] w fun e w' => ∃ r : Int, e = .returned (.int .i64 r) ∧ (r = -1 ∨ (0 ≤ r ∧ r + L.length ≤ left ∧ ∀ e ∈ L, SmT e)) ∧ Below w.heap.size w w' := by
  have hbl := hL.room
  have hbc := hL.big
  unfold maxLen at hbc
  have HL : Hid (EntsAt w a len cap L) := hL
  have HLN : Hid (L.length = len) := hL.length
  clear hL
  by_cases hb : left < len
  · go_enter Try.func28, Try.ntmps28
    go_wp2
    go_ret
    exact ⟨-1, rfl, Or.inl rfl, Below.refl _ _⟩
  · go_enter Try.func28, Try.ntmps28
    go_wp2
    go_loopw [1, 5] (fun l i wr => ∃ (k : Nat) (r : Int), k ≤ len ∧ i = .int .i64 k ∧ l = .int .i64 r ∧ 0 ≤ r ∧ r + len ≤ left ∧ (∀ (j : Nat) (e : EntD), j < k → L[j]? = some e → SmT e) ∧ Below w.heap.size w wr) (fun _ i _ => len - (intOf i).toNat)
    case atStart => exact ⟨0, left - len, Nat.zero_le _, rfl, rfl, by omega, by omega, fun j e hj => absurd hj (Nat.not_lt_zero j), Below.refl _ _⟩
    case round =>
      obtain ⟨k, r, hk, rfl, rfl, hr0, hr1, htx, hbw⟩ := hrel
      have HT : Hid (∀ (j : Nat) (e : EntD), j < k → L[j]? = some e → SmT e) := htx
      clear htx
      by_cases hlt : k < len
      · obtain ⟨b, off, rfl, hbb⟩ := HL.out.form (by omega)
        obtain ⟨s, q, d, t, n, hg, hlw, g0, g1, g2, g3, g4⟩ := HL.out.ent hbw hbb k hlt
        have hs := hlw.1
        have ht := hlw.2.2.2.1
        simp only at hs ht
        have HG : Hid (L[k]? = some (s, q, d, t, n)) := hg
        clear hg hlw
        by_cases hsz : r < s.size + t.size
        · go_wp2_with (go_at_call 54; refine (szEnt_no _ _ _ _ _ _ _ hs ht hr0 (by omega) hsz).mono ?_; rintro e w1 ⟨rfl, hb1⟩)
          go_ret
          exact ⟨-1, rfl, Or.inl rfl, hbw.trans (hb1.mono hbw.size)⟩
        · go_wp2_with (go_at_call 54; refine (szEnt_yes _ _ _ _ _ _ _ (by omega) (by omega)).mono ?_; rintro e w1 ⟨rfl, hb1⟩)
          go_roundw
          case rel =>
            refine ⟨k + 1, r - s.size - t.size, by omega, by go_num, rfl, by omega, by omega, fun j e hj he => ?_, hbw.trans (hb1.mono hbw.size)⟩
            by_cases hjk : j = k
            · have := HG.out; rw [hjk, this] at he; cases he; exact ⟨by show s.size ≤ _; omega, by show t.size ≤ _; omega⟩
            · exact HT.out j e (by omega) he
          case measure => simp [intOf]; omega
      · go_wp2
        go_ret
        refine ⟨r, rfl, Or.inr ⟨hr0, by rw [HLN.out]; exact hr1, fun e he => ?_⟩, hbw⟩
        obtain ⟨j, hj, rfl⟩ := List.getElem_of_mem he
        exact HT.out j _ (by have := HLN.out; omega) (List.getElem?_eq_getElem hj)

theorem flat_take_snoc {P : List (List EntD)} {k : Nat} {L : List EntD} (h : P[k]? = some L) : (P.take (k + 1)).flatten = (P.take k).flatten ++ L := by
  rw [List.take_add_one, h]
  simp
set_option maxHeartbeats 800000 in
theorem szEntSS_any (a : Option Addr) (len cap : Nat) (P : List (List EntD)) (left : Int) (w : World) (hP : PartsAt w a len cap P) (h0 : 0 ≤ left) (h1 : left ≤ 1048576) :
    Calls Try.prog 7 #[.slice a len cap, .int .i64 left] w fun e w' => ∃ r : Int, e = .returned (.int .i64 r) ∧ (r = -1 ∨ (0 ≤ r ∧ (len : Int) ≤ left ∧ (P.flatten.length : Int) ≤ left ∧ ∀ e ∈ P.flatten, SmT e)) ∧ Below w.heap.size w w' := by
  have hbl := hP.room
  have hbc := hP.big
  unfold maxLen at hbc
  have HL : Hid (PartsAt w a len cap P) := hP
  have HLEN : Hid (P.length = len) := hP.length
  clear hP
  by_cases hb : left < len
  · go_enter Try.func7, Try.ntmps7
    go_wp2
    go_ret
    exact ⟨-1, rfl, Or.inl rfl, Below.refl _ _⟩
  · go_enter Try.func7, Try.ntmps7
    go_wp2
    go_loopw [1, 5] (fun l i wr => ∃ (k : Nat) (r : Int), k ≤ len ∧ i = .int .i64 k ∧ l = .int .i64 r ∧ 0 ≤ r ∧ r ≤ left ∧ r + (P.take k).flatten.length ≤ left ∧ Below w.heap.size w wr ∧ ∀ e ∈ (P.take k).flatten, SmT e) (fun _ i _ => len - (intOf i).toNat)
    case atStart => exact ⟨0, left - len, Nat.zero_le _, rfl, rfl, by omega, by omega, by simp; omega, Below.refl _ _, fun e he => by simp at he⟩
    case round =>
      obtain ⟨k, r, hk, rfl, rfl, hr0, hr1, hrs, hbw, hall⟩ := hrel
      have HALL : Hid (∀ e ∈ (P.take k).flatten, SmT e) := hall
      have HRS : Hid (r + (P.take k).flatten.length ≤ left) := hrs
      clear hall hrs
      by_cases hlt : k < len
      · obtain ⟨b, off, rfl, hbb⟩ := HL.out.form (by omega)
        obtain ⟨B, s, n, c, hg, g0, hLk⟩ := HL.out.list hbw k hlt
        have HG : Hid (P[k]? = some B) := hg
        have hbk : b < wr.heap.size := Nat.lt_of_lt_of_le hbb hbw.size
        clear hg
        go_wp2_with (go_at_call 28; refine (szEntS_sum _ _ _ B _ _ hLk hr0 (by omega)).mono ?_; rintro e w1 ⟨r', rfl, hr', hb1⟩; rcases hr' with rfl | ⟨hr0', hr1', hln⟩)
        · go_ret
          exact ⟨-1, rfl, Or.inl rfl, hbw.trans (hb1.mono hbw.size)⟩
        · have HR1 : Hid (r' + B.length ≤ r) := hr1'
          have hrl : r' ≤ left := by omega
          have HLN : Hid (∀ e ∈ B, SmT e) := hln
          clear hr1' hln
          go_wp2
          go_roundw
          case rel =>
            refine ⟨k + 1, r', by omega, by go_num, rfl, hr0', hrl, ?_, hbw.trans (hb1.mono hbw.size), fun e he => ?_⟩
            · rw [flat_take_snoc HG.out, List.length_append]
              have h1 := HR1.out
              have h2 := HRS.out
              omega
            · rw [flat_take_snoc HG.out] at he
              rcases List.mem_append.1 he with h1 | h1
              · exact HALL.out e h1
              · exact HLN.out e h1
          case measure => simp [intOf]; omega
      · go_wp2
        go_ret
        have hkl : P.take k = P := List.take_of_length_le (by have := HLEN.out; omega)
        have h2 := HRS.out
        have h3 := HALL.out
        rw [hkl] at h2 h3
        exact ⟨r, rfl, Or.inr ⟨hr0, by omega, by omega, h3⟩, hbw⟩

/-- Lists in rows of a call's own: list i lies in block gs i, and a later one in a later block. -/
structure PartsX (w : World) (lo G n : Nat) (P : List (List EntD)) (gs : Nat → Nat) : Prop where
  row : ∃ xs, w.ownsRow lo 24 1 (.slice (some ⟨G, 0, none⟩) n n) n xs ∧ ∀ (i : Nat) (L : List EntD), P[i]? = some L → xs[i]? = some (Value.slice (some ⟨gs i, 0, none⟩) L.length L.length)
  len : P.length = n
  lists : ∀ (i : Nat) (L : List EntD), P[i]? = some L → OwnE w (G + 1) (gs i) L.length L.length L
  apart : ∀ i j, i < j → j < n → gs i < gs j
theorem PartsX.below {w w' : World} {lo G n : Nat} {P : List (List EntD)} {gs : Nat → Nat} (h : PartsX w lo G n P gs) (hb : Below w.heap.size w w') : PartsX w' lo G n P gs := by
  obtain ⟨xs, h1, h2⟩ := h.row
  exact ⟨⟨xs, h1.kept (grown_none hb) (.inr (by simp [Value.ownBlock])), h2⟩, h.len, fun i L hL => (h.lists i L hL).below hb, h.apart⟩
theorem PartsX.lt {w : World} {lo G n : Nat} {P : List (List EntD)} {gs : Nat → Nat} (h : PartsX w lo G n P gs) : lo ≤ G ∧ G < w.heap.size := by
  obtain ⟨xs, h1, _⟩ := h.row
  exact h1.lt G rfl
theorem PartsX.partsAt {w : World} {lo G n : Nat} {P : List (List EntD)} {gs : Nat → Nat} (h : PartsX w lo G n P gs) (hn : n ≤ maxLen) : PartsAt w (some ⟨G, 0, none⟩) n n P := by
  obtain ⟨xs, h1, h2⟩ := h.row
  refine ⟨h.len, Nat.le_refl _, hn, (fun e => by cases e), ?_, ?_⟩
  · rintro x e _
    cases e
    exact ⟨(h1.lt G rfl).2, rfl⟩
  · rintro x e i hi
    cases e
    have hP := List.getElem?_eq_getElem hi
    refine ⟨_, _, _, ?_, (h.lists i _ hP).entsAt⟩
    have := h1.cellAt i (by rw [← h.len]; omega)
    rw [h2 i _ hP] at this
    simpa using this
theorem PartsX.mono {w : World} {lo lo' G n : Nat} {P : List (List EntD)} {gs : Nat → Nat} (h : PartsX w lo G n P gs) (hl : lo' ≤ lo) : PartsX w lo' G n P gs := by
  obtain ⟨xs, ⟨h1, h1'⟩, h2⟩ := h.row
  refine ⟨⟨xs, ⟨h1, ?_⟩, h2⟩, h.len, h.lists, h.apart⟩
  rcases h1' with h3 | ⟨g', cap, cur, hv, hb', r⟩
  · exact .inl h3
  · exact .inr ⟨g', cap, cur, hv, Nat.le_trans hl hb', r⟩

set_option maxHeartbeats 1600000 in
theorem toEntSS_any (a : Option Addr) (len cap : Nat) (P : List (List EntD)) (w : World) (hP : PartsAt w a len cap P) (hlen : len ≤ 1048576) (hS : ∀ L ∈ P, L.length ≤ 1048576) :
    Calls Try.prog 9 #[.slice a len cap] w fun e w' => ∃ G gs, e = .returned (.slice (some ⟨G, 0, none⟩) len len) ∧ w.heap.size ≤ G ∧ PartsX w' w.heap.size G len P gs ∧ (∀ i, i < len → gs i < w'.heap.size) ∧ Below w.heap.size w w' := by
  have HLEN : Hid (P.length = len) := hP.length
  have HSM : Hid (∀ L ∈ P, L.length ≤ 1048576) := hS
  have HL : Hid (PartsAt w a len cap P) := hP
  clear hP hS
  obtain ⟨i0, hi, hz0, hz1, hz2⟩ := info_parts Try.infoEntS
  go_enter Try.func9, Try.ntmps9
  go_wp2_with (at_make; refine wpList_make_full _ rfl _ _ 26 rfl w.heap.size 24 i0 _ 1 Try.underlying26 hi hz0 hz1 .i64 .i64 _ _ len rfl rfl (by simp) (by simp) (by rw [hz2]; omega) (by unfold maxLen; omega) (Nat.le_refl _) ?_; intro w1 hown hgrow)
  have hb1 : Below w.heap.size w w1 := (Below.refl _ _).grown hgrow (Nat.le_refl _) (by simp)
  go_loopw [4] (fun i wr => ∃ (k : Nat) (xs : List Value) (gs : Nat → Nat), k ≤ len ∧ i = .int .i64 k ∧ wr.ownsRow w.heap.size 24 1 (.slice (some ⟨w.heap.size, 0, none⟩) len len) len xs ∧ Below w.heap.size w wr ∧ (∀ (j : Nat) (L : List EntD), j < k → P[j]? = some L → xs[j]? = some (Value.slice (some ⟨gs j, 0, none⟩) L.length L.length) ∧ OwnE wr (w.heap.size + 1) (gs j) L.length L.length L) ∧ (∀ i j, i < j → j < k → gs i < gs j) ∧ (∀ i, i < k → gs i < wr.heap.size)) (fun i _ => len - (intOf i).toNat)
  case atStart => exact ⟨0, _, fun _ => 0, Nat.zero_le _, rfl, hown, hb1, (fun j l h => absurd h (Nat.not_lt_zero _)), (fun i j _ h => absurd h (Nat.not_lt_zero _)), (fun i h => absurd h (Nat.not_lt_zero _))⟩
  case round =>
    obtain ⟨k, xs, gs, hk, rfl, ho, hb, hrow, hap, hgl⟩ := hrel
    have HROW : Hid (∀ (j : Nat) (L : List EntD), j < k → P[j]? = some L → xs[j]? = some (Value.slice (some ⟨gs j, 0, none⟩) L.length L.length) ∧ OwnE wr (w.heap.size + 1) (gs j) L.length L.length L) := hrow
    have HAP : Hid (∀ i j, i < j → j < k → gs i < gs j) := hap
    have HGL : Hid (∀ i, i < k → gs i < wr.heap.size) := hgl
    clear hrow hown hgrow hap hgl
    have hzr : w.heap.size < wr.heap.size := (ho.lt _ rfl).2
    by_cases hlt : k < len
    · obtain ⟨b, off, rfl, hbb⟩ := HL.out.form (by omega)
      obtain ⟨B, s, n, c, hg, g0, hLk⟩ := HL.out.list hb k hlt
      have hn : n ≤ 1048576 := by have h1 := HSM.out _ (List.mem_of_getElem? hg); have h2 := hLk.length; omega
      have HG : Hid (P[k]? = some B) := hg
      have HBN : Hid (B.length = n) := hLk.length
      have hbk : b < wr.heap.size := Nat.lt_of_lt_of_le hbb hb.size
      clear hg
      have hxl := ho.1
      have HX : Hid (xs.length = len * 1) := hxl
      clear hxl
      have HO : Hid (wr.ownsRow w.heap.size 24 1 (.slice (some ⟨w.heap.size, 0, none⟩) len len) len xs) := ho
      clear ho
      go_wp2_with fail
      refine (toEntS_own _ _ _ B _ hLk hn).mono ?_
      rintro e w2 ⟨rfl, hL2, hs2, hb2⟩
      have HL2 : Hid (OwnE w2 (w.heap.size + 1) wr.heap.size n n B) := hL2.mono hzr
      clear hL2 hLk hn
      have ho2 : w2.ownsRow w.heap.size 24 1 (.slice (some ⟨w.heap.size, 0, none⟩) len len) len xs := HO.out.kept (row := none) ⟨hb2.os, hb2.tape, hb2.output, hb2.size, fun k hk _ => hb2.block k hk⟩ (.inr (by simp [Value.ownBlock]))
      have c0 : ∃ v, w2.cell? ⟨w.heap.size, k, none⟩ = some v := ⟨_, (ho2.cellAt _ (by omega)).trans (List.getElem?_eq_getElem (by rw [HX.out]; omega))⟩
      obtain ⟨v0, c0⟩ := c0
      have f0 : w2.frozen? ⟨w.heap.size, k, none⟩ = false := ho2.frozenAt _
      have HO2 : Hid (w2.ownsRow w.heap.size 24 1 (.slice (some ⟨w.heap.size, 0, none⟩) len len) len xs) := ho2
      have HB2 : Hid (Below wr.heap.size wr w2) := hb2
      have HS2 : Hid (wr.heap.size < w2.heap.size) := hs2
      clear ho2 hb2 hs2
      have hz2' : w.heap.size < w2.heap.size := by have := HB2.out.size; omega
      go_wp2
      go_roundw
      case rel =>
        have t0 := HO2.out.stored k (.slice (some ⟨wr.heap.size, 0, none⟩) n n)
        have hgs := t0.2
        have hss := hgs.size
        refine ⟨k + 1, _, fun i => if i = k then wr.heap.size else gs i, by omega, by go_num, t0.1, ?_, ?_, ?_, ?_⟩
        · exact (hb.trans (HB2.out.mono hb.size)).setCell (p := ⟨w.heap.size, _, none⟩) (Nat.le_refl _) _
        · intro j L hj hp
          by_cases hjk : j = k
          · subst hjk
            rw [HG.out] at hp
            cases hp
            simp only [if_true, HBN.out]
            refine ⟨List.getElem?_set_self (by rw [HX.out]; omega), HL2.out.grown hgs (fun e => ?_)⟩
            have h1 := Option.some.inj e
            omega
          · obtain ⟨h1, h2⟩ := HROW.out j L (by omega) hp
            simp only [if_neg hjk]
            refine ⟨by rw [List.getElem?_set_ne (by omega)]; exact h1, (h2.below HB2.out).grown hgs (fun e => ?_)⟩
            have h3 := Option.some.inj e
            have h4 := h2.lt.1
            omega
        · intro i j hij hj
          simp only
          by_cases hjk : j = k
          · rw [if_pos hjk, if_neg (by omega)]
            exact HGL.out i (by omega)
          · rw [if_neg hjk, if_neg (by omega)]
            exact HAP.out i j hij (by omega)
        · intro i hi'
          have h2 := HS2.out
          have h3 := HB2.out.size
          simp only
          by_cases hik : i = k
          · rw [if_pos hik]; omega
          · rw [if_neg hik]
            have := HGL.out i (by omega)
            omega
      case measure => simp [intOf]; omega
    · have hkn : k = len := by omega
      subst hkn
      go_wp2
      go_ret
      refine ⟨_, gs, rfl, Nat.le_refl _, ⟨⟨xs, ho, fun i L hL => (HROW.out i L ?_ hL).1⟩, HLEN.out, fun i L hL => (HROW.out i L ?_ hL).2, HAP.out⟩, HGL.out, hb⟩
      · have := (List.getElem?_eq_some_iff.1 hL).1; rw [HLEN.out] at this; exact this
      · have := (List.getElem?_eq_some_iff.1 hL).1; rw [HLEN.out] at this; exact this

set_option maxHeartbeats 1600000 in
theorem eqEntSS_any (a1 a2 : Option Addr) (len cap1 cap2 : Nat) (P : List (List EntD)) (w : World) (h1 : PartsAt w a1 len cap1 P) (h2 : PartsAt w a2 len cap2 P) :
    Calls Try.prog 12 #[.slice a1 len cap1, .slice a2 len cap2] w fun e w' => e = .returned (.bool true) ∧ Below w.heap.size w w' := by
  have hbl := h1.room
  have hbc := h1.big
  unfold maxLen at hbc
  have H1 : Hid (PartsAt w a1 len cap1 P) := h1
  have H2 : Hid (PartsAt w a2 len cap2 P) := h2
  clear h1 h2
  go_enter Try.func12, Try.ntmps12
  go_wp2
  go_loopw [5] (fun i wr => ∃ k : Nat, k ≤ len ∧ i = .int .i64 k ∧ Below w.heap.size w wr) (fun i _ => len - (intOf i).toNat)
  case atStart => exact ⟨0, Nat.zero_le _, rfl, Below.refl _ _⟩
  case round =>
    obtain ⟨k, hk, rfl, hb⟩ := hrel
    have HB : Hid (Below w.heap.size w wr) := hb
    by_cases hlt : k < len
    · obtain ⟨b1, o1, rfl, hb1⟩ := H1.out.form (by omega)
      obtain ⟨b2, o2, rfl, hb2⟩ := H2.out.form (by omega)
      obtain ⟨L, s1, m1, d1, hg, g0, e1⟩ := H1.out.list hb k hlt
      obtain ⟨L', s2, m2, d2, hg', q0, e2⟩ := H2.out.list hb k hlt
      rw [hg] at hg'
      cases hg'
      obtain rfl : m1 = m2 := by have h1 := e1.length; have h2 := e2.length; omega
      have z1 : b1 < wr.heap.size := Nat.lt_of_lt_of_le hb1 hb.size
      have z2 : b2 < wr.heap.size := Nat.lt_of_lt_of_le hb2 hb.size
      have hltI : (k : Int) < (len : Int) := by omega
      have HE1 : Hid (∀ w', Below wr.heap.size wr w' → EntsAt w' s1 m1 d1 L) := fun w' kk => e1.keep kk
      have HE2 : Hid (∀ w', Below wr.heap.size wr w' → EntsAt w' s2 m1 d2 L) := fun w' kk => e2.keep kk
      have k0 : Below wr.heap.size wr wr.drew := (Below.refl _ wr).drew
      have HMK : Hid (∀ w', Below wr.heap.size wr w' → (w'.cell? ⟨b1, o1 + k, none⟩ = some (.slice s1 m1 d1) ∧ w'.cell? ⟨b2, o2 + k, none⟩ = some (.slice s2 m1 d2) ∧ b1 < w'.heap.size ∧ b2 < w'.heap.size)) := fun w' kk => ⟨cell_later kk g0, cell_later kk q0, Nat.lt_of_lt_of_le z1 kk.size, Nat.lt_of_lt_of_le z2 kk.size⟩
      clear hg g0 q0 e1 e2 hb z1 z2
      go_wp2_with fail
      refine wp_region_held_drew (S := (fun w' => w'.cell? ⟨b1, o1 + k, none⟩ = some (.slice s1 m1 d1) ∧ w'.cell? ⟨b2, o2 + k, none⟩ = some (.slice s2 m1 d2) ∧ b1 < w'.heap.size ∧ b2 < w'.heap.size)) (by kernel_rfl) (HMK.out _ k0) (fun hHeld => ?_)
      refine wpAnyH_takeL (i := 0) (v := ?_) rfl (by kernel_rfl) (by kernel_rfl) (by kernel_rfl) (fun _ _ _ h => h) (Or.inl ⟨by rfl, ?_⟩) hHeld ?_
      rotate_left
      · (intro w hSw; (try dsimp only at hSw); go_simp; try with_reducible rfl)
      try go_frame
      refine wpAnyH_takeL (i := 1) (v := ?_) rfl (by kernel_rfl) (by kernel_rfl) (by kernel_rfl) (fun _ _ _ h => h) (Or.inl ⟨by rfl, ?_⟩) hHeld ?_
      rotate_left
      · (intro w hSw; (try dsimp only at hSw); go_simp; try with_reducible rfl)
      try go_frame
      refine wpAnyH_takeL (i := 2) (v := ?_) rfl (by kernel_rfl) (by kernel_rfl) (by kernel_rfl) (fun _ _ _ h => h) (Or.inl ⟨by rfl, ?_⟩) hHeld ?_
      rotate_left
      · (intro w hSw; (try dsimp only at hSw); go_simp; try with_reducible rfl)
      try go_frame
      refine wpAnyH_takeL (i := 3) (v := ?_) rfl (by kernel_rfl) (by kernel_rfl) (by kernel_rfl) (fun _ _ _ h => h) (Or.inl ⟨by rfl, ?_⟩) hHeld ?_
      rotate_left
      · (intro w hSw; (try dsimp only at hSw); go_simp; try with_reducible rfl)
      try go_frame
      refine wpAnyH_takeL (i := 4) (v := ?_) rfl (by kernel_rfl) (by kernel_rfl) (by kernel_rfl) (fun _ _ _ h => h) (Or.inl ⟨by rfl, ?_⟩) hHeld ?_
      rotate_left
      · (intro w hSw; (try dsimp only at hSw); go_simp; try with_reducible rfl)
      try go_frame
      refine wpAnyH_takeL (i := 5) (v := ?_) rfl (by kernel_rfl) (by kernel_rfl) (by kernel_rfl) (fun _ _ _ h => h) (Or.inl ⟨by rfl, ?_⟩) hHeld ?_
      rotate_left
      · (intro w hSw; (try dsimp only at hSw); go_simp; try with_reducible rfl)
      try go_frame
      refine wpAnyH_takeL (i := 6) (v := ?_) rfl (by kernel_rfl) (by kernel_rfl) (by kernel_rfl) (fun _ _ _ h => h) (Or.inl ⟨by rfl, ?_⟩) hHeld ?_
      rotate_left
      · (intro w hSw; (try dsimp only at hSw); go_simp; try with_reducible rfl)
      try go_frame
      refine wpAnyH_takeL (i := 7) (v := ?_) rfl (by kernel_rfl) (by kernel_rfl) (by kernel_rfl) (fun _ _ _ h => h) (Or.inl ⟨by rfl, ?_⟩) hHeld ?_
      rotate_left
      · (intro w hSw; (try dsimp only at hSw); go_simp; try with_reducible rfl)
      try go_frame
      refine wpAnyH_ready (rs := [8]) (by kernel_rfl) (by simp) ?_
      refine consL rfl (fun K hK => ?_) AllReadyH.nil
      go_simp
      refine (eqEntS_opt _ _ _ _ _ L _ (HE1.out _ k0) (HE2.out _ k0)).mono ?_
      rintro e w1 ⟨rfl, b1'⟩
      have k1 : Below wr.heap.size wr w1 := k0.trans (b1'.mono k0.size)
      go_wp2_with fail
      refine hK.out _ _ (HMK.out _ k1) (fun hHeld => ?_)
      clear hK K
      try go_frame
      refine wpAnyH_takeL (i := 9) (v := ?_) rfl (by kernel_rfl) (by kernel_rfl) (by kernel_rfl) (fun _ _ _ h => h) (Or.inl ⟨by rfl, ?_⟩) hHeld ?_
      rotate_left
      · (intro w hSw; (try dsimp only at hSw); go_simp; try with_reducible rfl)
      try go_frame
      refine wpAnyH_done (by kernel_rfl) ?_ _
      clear HMK hHeld
      have HB2 : Hid (Below w.heap.size w w1) := HB.out.trans (k1.mono HB.out.size)
      clear k0 k1 b1' HB
      go_wp2
      go_roundw
      case rel => exact ⟨k + 1, by omega, by go_num, HB2.out⟩
      case measure => simp [intOf]; omega
    · go_wp2
      go_ret
      exact ⟨rfl, HB.out⟩

/-- Only blocks from lo on and below hi were written. -/
structure KeepO (lo hi : Nat) (w w' : World) : Prop where
  os : w'.os = w.os
  tape : w'.tape = w.tape
  output : w'.output = w.output
  size : w.heap.size ≤ w'.heap.size
  block : ∀ k, k < w.heap.size → (k < lo ∨ hi ≤ k) → w'.heap[k]? = w.heap[k]?
theorem KeepO.refl (lo hi : Nat) (w : World) : KeepO lo hi w w := ⟨rfl, rfl, rfl, Nat.le_refl _, fun _ _ _ => rfl⟩
theorem KeepO.grown {lo hi g : Nat} {w w' w'' : World} (h : KeepO lo hi w w') (hg : w'.grownBy w'' (some g)) (h1 : lo ≤ g) (h2 : g < hi) : KeepO lo hi w w'' :=
  ⟨hg.os.trans h.os, hg.tape.trans h.tape, hg.output.trans h.output, Nat.le_trans h.size hg.size, fun k hk ho => (hg.block k (Nat.lt_of_lt_of_le hk h.size) (fun e => by have := Option.some.inj e; omega)).trans (h.block k hk ho)⟩
theorem KeepO.own {lo hi base g n c : Nat} {w w' : World} {L : List EntD} (h : KeepO lo hi w w') (hO : OwnE w base g n c L) (hg : g < lo ∨ hi ≤ g) : OwnE w' base g n c L := by
  refine ⟨⟨hO.owns.1, ?_⟩, hO.len, hO.ents⟩
  have hlt := hO.lt.2
  rcases hO.owns.2 with hn | ⟨g1, cap1, cur1, e1, hb1, hgb, rest⟩
  · exact .inl hn
  · cases e1
    exact .inr ⟨g, c, cur1, rfl, hb1, (h.block g hlt hg).trans hgb, rest⟩
theorem KeepO.below {lo hi B : Nat} {w w' : World} (h : KeepO lo hi w w') (hB : B ≤ lo) (hw : B ≤ w.heap.size) : Below B w w' := ⟨h.os, h.tape, h.output, h.size, fun k hk => h.block k (by omega) (.inl (by omega))⟩

set_option maxRecDepth 100000 in
set_option maxHeartbeats 1600000 in
theorem markEntSS_any (lo hi G n k : Nat) (P : List (List EntD)) (gs : Nat → Nat) (w : World) (hX : PartsX w lo G n P gs) (hgs : ∀ i, i < n → gs i < hi) (hk : 1 ≤ k) (hn : k + 5 * P.flatten.length ≤ 1000000000) (hn2 : n ≤ 1048576) :
    Calls Try.prog 13 #[.slice (some ⟨G, 0, none⟩) n n, .int .i64 k] w fun e w' => (∃ r : Nat, e = .returned (.int .i64 (r : Int))) ∧ KeepO lo hi w w' := by
  have HX : Hid (PartsX w lo G n P gs) := hX
  have HLN : Hid (P.length = n) := hX.len
  have HGS : Hid (∀ i, i < n → gs i < hi) := hgs
  have HN : Hid (k + 5 * P.flatten.length ≤ 1000000000) := hn
  have HGL : Hid (lo ≤ G) := hX.lt.1
  have hGl := hX.lt
  clear hX hgs hn
  go_enter Try.func13, Try.ntmps13
  go_wp2
  go_loopw [1, 5] (fun kv iv wr => ∃ (j K : Nat), j ≤ n ∧ iv = .int .i64 j ∧ kv = .int .i64 (K : Int) ∧ K = k + 5 * (P.take j).flatten.length ∧ (∀ (i : Nat) (L : List EntD), j ≤ i → P[i]? = some L → OwnE wr (G + 1) (gs i) L.length L.length L) ∧ (∀ (i : Nat) (L : List EntD), P[i]? = some L → wr.cell? ⟨G, i, none⟩ = some (.slice (some ⟨gs i, 0, none⟩) L.length L.length)) ∧ KeepO lo hi w wr) (fun _ iv _ => n - (intOf iv).toNat)
  case atStart =>
    obtain ⟨xs, h1, h2⟩ := HX.out.row
    refine ⟨0, k, Nat.zero_le _, rfl, rfl, by simp, fun i L _ hL => HX.out.lists i L hL, fun i L hL => ?_, KeepO.refl _ _ _⟩
    have := h1.cellAt i (by have := (List.getElem?_eq_some_iff.1 hL).1; rw [HLN.out] at this; omega)
    rw [h2 i _ hL] at this
    simpa using this
  case round =>
    obtain ⟨j, K, hj, rfl, rfl, hK, hrow, hcell, hkeep⟩ := hrel
    have HROW : Hid (∀ (i : Nat) (L : List EntD), j ≤ i → P[i]? = some L → OwnE wr (G + 1) (gs i) L.length L.length L) := hrow
    have HCELL : Hid (∀ (i : Nat) (L : List EntD), P[i]? = some L → wr.cell? ⟨G, i, none⟩ = some (.slice (some ⟨gs i, 0, none⟩) L.length L.length)) := hcell
    have HK : Hid (K = k + 5 * (P.take j).flatten.length) := hK
    have HKP : Hid (KeepO lo hi w wr) := hkeep
    have hzs := hkeep.size
    clear hrow hcell hK hkeep
    by_cases hlt : j < n
    · have hltI : (j : Int) < (n : Int) := by omega
      obtain ⟨L, hL⟩ : ∃ L, P[j]? = some L := ⟨_, List.getElem?_eq_getElem (by rw [HLN.out]; exact hlt)⟩
      have c0 := HCELL.out j L hL
      have hO := HROW.out j L (Nat.le_refl _) hL
      have hle : K + 5 * L.length ≤ 1000000000 := by
        have h1 := HK.out
        have h2 := HN.out
        have h3 : P.flatten = (P.take (j + 1)).flatten ++ (P.drop (j + 1)).flatten := by rw [← List.flatten_append, List.take_append_drop]
        rw [h3, flat_take_snoc hL, List.length_append, List.length_append] at h2
        omega
      have hk1 : 1 ≤ K := by have h1 := HK.out; omega
      have CM := markE_any (G + 1) (gs j) L.length L.length K L wr hO hk1 hle
      have HGJ : Hid (gs j < hi ∧ G + 1 ≤ gs j) := ⟨HGS.out j hlt, hO.lt.1⟩
      have HLJ : Hid (P[j]? = some L) := hL
      have zG : G < wr.heap.size := by omega
      clear hO hL
      obtain ⟨LL, hLL⟩ : ∃ LL, L.length = LL := ⟨_, rfl⟩
      have HLL : Hid (L.length = LL) := hLL
      rw [hLL] at c0 CM hle
      clear hLL
      go_wp2_with fail
      refine CM.mono ?_
      rintro e w2 ⟨rfl, _, hg2⟩
      obtain ⟨K2, hK2⟩ : ∃ K2 : Nat, K2 = K + 5 * LL := ⟨_, rfl⟩
      have HK2 : Hid (K2 = K + 5 * LL) := hK2
      rw [← hK2]
      have HG2 : Hid (wr.grownBy w2 (some (gs j))) := hg2
      clear hK2 hg2 CM
      go_wp2
      go_roundw
      case rel =>
        have hgj := HGJ.out
        refine ⟨j + 1, K2, by omega, by go_num, rfl, ?_, ?_, ?_, HKP.out.grown HG2.out (by have := HGL.out; omega) hgj.1⟩
        · have h1 := HK.out
          have h2 := HK2.out
          have h3 := HLL.out
          rw [flat_take_snoc HLJ.out, List.length_append]
          omega
        · intro i L' hi' hL'
          refine (HROW.out i L' (by omega) hL').grown HG2.out (fun e => ?_)
          have h1 := HX.out.apart j i (by omega) (by have := (List.getElem?_eq_some_iff.1 hL').1; rw [HLN.out] at this; exact this)
          have := Option.some.inj e
          omega
        · intro i L' hL'
          rw [World.cell?_of_block (a := ⟨G, i, none⟩) (HG2.out.block G zG (fun e => by have := Option.some.inj e; omega))]
          exact HCELL.out i L' hL'
      case measure => simp [intOf]; omega
    · have hltI : ¬ (j : Int) < (n : Int) := by omega
      go_wp2
      go_ret
      exact ⟨⟨K, rfl⟩, HKP.out⟩
end Go.Proofs.Ytkdalacclafihaa
