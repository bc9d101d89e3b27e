/-
  The laws' own helpers over lists of runs, levels, numbers, and trees (size, copy, that two are the same), by walks of their Go text.
-/
import Derived.Test.YtapjkbpfhmbfaaaGreatDoorSo33
import Derived.Test.YtapjkbpfhmbfaaaGreatDoorSo24
namespace Go.Proofs.YtapjkbpfhmbfaaaGreatDoor
open Go.RowKit
theorem Tryz.infoRun : (Tryz.prog.info? 135).map (fun i => (i.zero, i.size, i.bytes)) = some (some (.agg #[.slice none 0 0, .int .i64 0]), 2, 32) := by kernel_rfl
theorem Tryz.infoRunL : (Tryz.prog.info? 64).map (fun i => (i.zero, i.size, i.bytes)) = some (some (.slice none 0 0), 1, 24) := by kernel_rfl
def SmallR (B : List RunD) : Prop := B.length ≤ 1048576 ∧ ∀ p ∈ B, p.1.length ≤ 1048576
def SmallV (V : List (List RunD)) : Prop := V.length ≤ 1048576 ∧ ∀ B ∈ V, SmallR B
set_option maxHeartbeats 800000 in
theorem szRunS_any (lo : Nat) (a : Option Addr) (len cap : Nat) (B : List RunD) (left : Int) (w : World) (hP : RunsIn lo w a len cap B) (h0 : 0 ≤ left) (h1 : left ≤ 1048576) :
    Calls Tryz.prog 127 #[.slice a len cap, .int .i64 left] w fun e w' => ∃ r : Int, e = .returned (.int .i64 r) ∧ (r = -1 ∨ (0 ≤ r ∧ r ≤ left ∧ SmallR B)) ∧ Below w.heap.size w w' := by
  have hbl := hP.room
  have hbc := hP.big
  unfold maxLen at hbc
  have HL : Hid (RunsIn lo w a len cap B) := hP
  have HLEN : Hid (B.length = len) := hP.length
  clear hP
  by_cases hb : left < len
  · go_enter Tryz.func127, Tryz.ntmps127
    go_wp2
    go_ret
    exact ⟨-1, rfl, Or.inl rfl, Below.refl _ _⟩
  · go_enter Tryz.func127, Tryz.ntmps127
    go_wp2
    go_loopw [1, 5] (fun l i wr => ∃ (k : Nat) (r : Int), k ≤ len ∧ i = .int .i64 k ∧ l = .int .i64 r ∧ 0 ≤ r ∧ r ≤ left ∧ Below w.heap.size w wr ∧ ∀ j p, j < k → B[j]? = some p → p.1.length ≤ 1048576) (fun _ i _ => len - (intOf i).toNat)
    case atStart => exact ⟨0, left - len, Nat.zero_le _, rfl, rfl, by omega, by omega, Below.refl _ _, fun j p hj => by omega⟩
    case round =>
      obtain ⟨k, r, hk, rfl, rfl, hr0, hr1, hbw, hall⟩ := hrel
      have HALL : Hid (∀ j p, j < k → B[j]? = some p → p.1.length ≤ 1048576) := hall
      clear hall
      by_cases hlt : k < len
      · obtain ⟨b, off, rfl, hbb⟩ := HL.out.form (by omega)
        obtain ⟨L, m, s, n, c, hg, _, g0, g1, hLk⟩ := HL.out.run hbw k hlt
        have HG : Hid (B[k]? = some (L, m)) := hg
        have hbk : b < wr.heap.size := Nat.lt_of_lt_of_le hbb hbw.size
        have HLN : Hid (L.length = n) := hLk.1.length
        clear hg
        go_wp2_with (go_at_call 183; refine (szRun_any _ _ _ _ L _ _ hLk.1 hr0 (by omega)).mono ?_; rintro e w1 ⟨r', rfl, hr', hb1⟩; rcases hr' with rfl | ⟨hr0', hr1', hln⟩)
        · go_ret
          exact ⟨-1, rfl, Or.inl rfl, hbw.trans (hb1.mono hbw.size)⟩
        · go_wp2
          go_roundw
          case rel =>
            refine ⟨k + 1, r', by omega, by go_num, rfl, hr0', by omega, hbw.trans (hb1.mono hbw.size), fun j p hj hp => ?_⟩
            by_cases hjk : j = k
            · subst hjk
              rw [HG.out] at hp
              cases hp
              have := HLN.out
              simp only
              omega
            · exact HALL.out j p (by omega) hp
          case measure => simp [intOf]; omega
      · go_wp2
        go_ret
        refine ⟨r, rfl, Or.inr ⟨hr0, hr1, ⟨by have := HLEN.out; omega, fun p hp => ?_⟩⟩, hbw⟩
        obtain ⟨j, hj, rfl⟩ := List.getElem_of_mem hp
        exact HALL.out j _ (by have := HLEN.out; omega) (List.getElem?_eq_getElem hj)
set_option maxHeartbeats 800000 in
theorem szRunSS_any (lo : Nat) (a : Option Addr) (len cap : Nat) (V : List (List RunD)) (left : Int) (w : World) (hP : LevelsIn lo w a len cap V) (h0 : 0 ≤ left) (h1 : left ≤ 1048576) :
    Calls Tryz.prog 72 #[.slice a len cap, .int .i64 left] w fun e w' => ∃ r : Int, e = .returned (.int .i64 r) ∧ (r = -1 ∨ (0 ≤ r ∧ r ≤ left ∧ SmallV V)) ∧ Below w.heap.size w w' := by
  have hbl := hP.room
  have hbc := hP.big
  unfold maxLen at hbc
  have HL : Hid (LevelsIn lo w a len cap V) := hP
  have HLEN : Hid (V.length = len) := hP.length
  clear hP
  by_cases hb : left < len
  · go_enter Tryz.func72, Tryz.ntmps72
    go_wp2
    go_ret
    exact ⟨-1, rfl, Or.inl rfl, Below.refl _ _⟩
  · go_enter Tryz.func72, Tryz.ntmps72
    go_wp2
    go_loopw [1, 5] (fun l i wr => ∃ (k : Nat) (r : Int), k ≤ len ∧ i = .int .i64 k ∧ l = .int .i64 r ∧ 0 ≤ r ∧ r ≤ left ∧ Below w.heap.size w wr ∧ ∀ j p, j < k → V[j]? = some p → SmallR p) (fun _ i _ => len - (intOf i).toNat)
    case atStart => exact ⟨0, left - len, Nat.zero_le _, rfl, rfl, by omega, by omega, Below.refl _ _, fun j p hj => by omega⟩
    case round =>
      obtain ⟨k, r, hk, rfl, rfl, hr0, hr1, hbw, hall⟩ := hrel
      have HALL : Hid (∀ j p, j < k → V[j]? = some p → SmallR p) := hall
      clear hall
      by_cases hlt : k < len
      · obtain ⟨b, off, rfl, hbb⟩ := HL.out.form (by omega)
        obtain ⟨B, s, n, c, hg, g0, hLk⟩ := HL.out.level hbw k hlt
        have HG : Hid (V[k]? = some B) := hg
        have hbk : b < wr.heap.size := Nat.lt_of_lt_of_le hbb hbw.size
        skip
        clear hg
        go_wp2_with (go_at_call 127; refine (szRunS_any lo _ _ _ B _ _ hLk hr0 (by omega)).mono ?_; rintro e w1 ⟨r', rfl, hr', hb1⟩; rcases hr' with rfl | ⟨hr0', hr1', hln⟩)
        · go_ret
          exact ⟨-1, rfl, Or.inl rfl, hbw.trans (hb1.mono hbw.size)⟩
        · go_wp2
          go_roundw
          case rel =>
            refine ⟨k + 1, r', by omega, by go_num, rfl, hr0', by omega, hbw.trans (hb1.mono hbw.size), fun j p hj hp => ?_⟩
            by_cases hjk : j = k
            · subst hjk
              rw [HG.out] at hp
              cases hp
              exact hln
            · exact HALL.out j p (by omega) hp
          case measure => simp [intOf]; omega
      · go_wp2
        go_ret
        refine ⟨r, rfl, Or.inr ⟨hr0, hr1, ⟨by have := HLEN.out; omega, fun p hp => ?_⟩⟩, hbw⟩
        obtain ⟨j, hj, rfl⟩ := List.getElem_of_mem hp
        exact HALL.out j _ (by have := HLEN.out; omega) (List.getElem?_eq_getElem hj)
set_option maxHeartbeats 400000 in
theorem szIntS_any (lo : Nat) (a : Option Addr) (len cap : Nat) (S : List Int) (left : Int) (w : World) (hP : IntsIn lo w a len cap S) (h0 : 0 ≤ left) (h1 : left ≤ 1048576) :
    Calls Tryz.prog 73 #[.slice a len cap, .int .i64 left] w fun e w' => ∃ r : Int, e = .returned (.int .i64 r) ∧ (r = -1 ∨ (0 ≤ r ∧ r ≤ left ∧ len ≤ 1048576)) ∧ Below w.heap.size w w' := by
  have hbl := hP.room
  have hbc := hP.big
  unfold maxLen at hbc
  clear hP
  by_cases hb : left < len
  · go_enter Tryz.func73, Tryz.ntmps73
    go_wp2
    go_ret
    exact ⟨-1, rfl, Or.inl rfl, Below.refl _ _⟩
  · go_enter Tryz.func73, Tryz.ntmps73
    go_wp2
    go_ret
    exact ⟨left - len, rfl, Or.inr ⟨by omega, by omega, by omega⟩, Below.refl _ _⟩
def RunHas (G : Nat) (w : World) (xs : List Value) (j : Nat) (p : RunD) : Prop :=
  ∃ s n c, xs[j * 2]? = some (.slice s n c) ∧ xs[j * 2 + 1]? = some (.int .i64 p.2) ∧ EntsIn (G + 1) w s n c p.1
theorem RunHas.other {G : Nat} {w w' : World} {xs : List Value} {j k : Nat} {p : RunD} (h : RunHas G w xs j p) (hne : j ≠ k) (u0 u1 : Value) (hs : Same (G + 1) w w') : RunHas G w' ((xs.set (k * 2) u0).set (k * 2 + 1) u1) j p := by
  obtain ⟨s, n, c, h0, h1, h2⟩ := h
  refine ⟨s, n, c, ?_, ?_, h2.same hs⟩ <;> (repeat rw [List.getElem?_set_ne (by omega)]) <;> assumption
theorem runHas_same {G : Nat} {w : World} {xs : List Value} {k : Nat} {m : Int} {s : Option Addr} {n c : Nat} {L : List EntD} (h : k * 2 + 1 < xs.length) (hL : EntsIn (G + 1) w s n c L) : RunHas G w ((xs.set (k * 2) (.slice s n c)).set (k * 2 + 1) (.int .i64 m)) k (L, m) := by
  refine ⟨s, n, c, ?_, ?_, hL⟩
  · rw [List.getElem?_set_ne (by omega), List.getElem?_set_self (by omega)]
  · rw [List.getElem?_set_self (by simp; omega)]
theorem row_rooms {w : World} {base g n cap K : Nat} {T : TypeId} {xs : List Value} (h : w.ownsRow base T K (.slice (some ⟨g, 0, none⟩) n cap) n xs) : n ≤ cap ∧ cap ≤ maxLen := by
  rcases h.2 with ⟨h', _⟩ | ⟨g', cap', cur, h', _, _, hnc, hcm, _, _⟩
  · simp at h'
  · simp only [Value.slice.injEq, Option.some.injEq, Addr.mk.injEq, and_true, true_and] at h'
    obtain ⟨rfl, rfl⟩ := h'
    exact ⟨hnc, hcm⟩
theorem runsIn_of_row {w : World} {base g n cap : Nat} {xs : List Value} {B : List RunD} (h : w.ownsRow base 135 2 (.slice (some ⟨g, 0, none⟩) n cap) n xs) (hn : B.length = n) (hw : ∀ p ∈ B, (Lit.int .i64 p.2).wf = true)
    (hh : ∀ j p, B[j]? = some p → RunHas g w xs j p) : RunsIn g w (some ⟨g, 0, none⟩) n cap B := by
  have hlt := (h.lt g rfl).2
  have hrc := row_rooms h
  refine ⟨hn, hrc.1, hrc.2, (fun e => by cases e), ?_, ?_⟩
  · rintro x e _
    cases e
    exact ⟨hlt, rfl, Nat.le_refl _⟩
  · rintro x e i hi
    cases e
    obtain ⟨s, m, c, r0, r1, r2⟩ := hh i B[i] (List.getElem?_eq_getElem hi)
    refine ⟨hw _ (List.getElem_mem hi), s, m, c, ?_, ?_, r2.mono (by omega)⟩
    · simp only [Nat.zero_add]
      exact (h.cellAt _ (by omega)).trans r0
    · simp only [Nat.zero_add]
      exact (h.cellAt _ (by omega)).trans r1
set_option maxHeartbeats 1600000 in
theorem toRunS_any (lo : Nat) (a : Option Addr) (len cap : Nat) (B : List RunD) (w : World) (hP : RunsIn lo w a len cap B) (hS : SmallR B) :
    Calls Tryz.prog 138 #[.slice a len cap] w fun e w' => e = .returned (.slice (some ⟨w.heap.size, 0, none⟩) len len) ∧ RunsIn w.heap.size w' (some ⟨w.heap.size, 0, none⟩) len len B ∧ w.heap.size < w'.heap.size ∧ Below w.heap.size w w' := by
  have HLEN : Hid (B.length = len) := hP.length
  have HWF : Hid (∀ p ∈ B, (Lit.int .i64 p.2).wf = true) := hP.wfs
  have hbig : len ≤ 1048576 := by have := hP.length; have := hS.1; omega
  have HSM : Hid (SmallR B) := hS
  have HL : Hid (RunsIn lo w a len cap B) := hP
  clear hP hS
  obtain ⟨i0, hi, hz0, hz1, hz2⟩ := info_parts Tryz.infoRun
  go_enter Tryz.func138, Tryz.ntmps138
  go_wp2_with (at_make; refine wpList_make_full _ rfl _ _ 64 rfl w.heap.size 135 i0 _ 2 Tryz.underlying64 hi hz0 hz1 .i64 .i64 _ _ len rfl rfl (by simp) (by simp) (by rw [hz2]; omega) (by unfold maxLen; omega) (Nat.le_refl _) ?_; intro w1 hown hgrow)
  have hb1 : Below w.heap.size w w1 := (Below.refl _ _).grown hgrow (Nat.le_refl _) (by simp)
  have hsz1 : w.heap.size < w1.heap.size := (hown.lt _ rfl).2
  go_loopw [4] (fun i wr => ∃ (k : Nat) (xs : List Value), k ≤ len ∧ i = .int .i64 k ∧ wr.ownsRow w.heap.size 135 2 (.slice (some ⟨w.heap.size, 0, none⟩) len len) len xs ∧ Below w.heap.size w wr ∧ (∀ j p, j < k → B[j]? = some p → RunHas w.heap.size wr xs j p)) (fun i _ => len - (intOf i).toNat)
  case atStart => exact ⟨0, _, Nat.zero_le _, rfl, hown, hb1, fun j l h => absurd h (Nat.not_lt_zero _)⟩
  case round =>
    obtain ⟨k, xs, hk, rfl, ho, hb, hrow⟩ := hrel
    have HROW : Hid (∀ j p, j < k → B[j]? = some p → RunHas w.heap.size wr xs j p) := hrow
    clear hrow hown hgrow
    have hzr : w.heap.size < wr.heap.size := (ho.lt _ rfl).2
    by_cases hlt : k < len
    · obtain ⟨b, off, rfl, hbb⟩ := HL.out.form (by omega)
      obtain ⟨L, m, s, n, c, hg, _, g0, g1, hLk⟩ := HL.out.run hb k hlt
      have hn : n ≤ 1048576 := by
        have := HSM.out.2 _ (List.mem_of_getElem? hg)
        have := hLk.1.length
        simp only at *
        omega
      have HG : Hid (B[k]? = some (L, m)) := hg
      have hbk : b < wr.heap.size := Nat.lt_of_lt_of_le hbb hb.size
      clear hg
      have hxl := ho.1
      have HX : Hid (xs.length = len * 2) := hxl
      clear hxl
      have HO : Hid (wr.ownsRow w.heap.size 135 2 (.slice (some ⟨w.heap.size, 0, none⟩) len len) len xs) := ho
      clear ho
      go_wp2_with fail
      refine (toRun_any _ _ _ _ L _ hLk.1 hn).mono ?_
      rintro e w2 ⟨nb, rfl, hnb1, hnb2, hL2, hb2⟩
      have HL2 : Hid (EntsIn (w.heap.size + 1) w2 (some ⟨nb, 0, none⟩) n n L) := ⟨hL2, fun x e _ => by cases e; simp only; omega⟩
      clear hL2 hLk
      have ho2 : w2.ownsRow w.heap.size 135 2 (.slice (some ⟨w.heap.size, 0, none⟩) len len) len xs := HO.out.kept (row := none) ⟨hb2.os, hb2.tape, hb2.output, hb2.size, fun k hk _ => hb2.block k hk⟩ (.inr (by simp [Value.ownBlock]))
      have c0 : ∃ v, w2.cell? ⟨w.heap.size, k * 2, none⟩ = some v := ⟨_, (ho2.cellAt _ (by omega)).trans (List.getElem?_eq_getElem (by rw [HX.out]; omega))⟩
      have c1 : ∃ v, w2.cell? ⟨w.heap.size, k * 2 + 1, none⟩ = some v := ⟨_, (ho2.cellAt _ (by omega)).trans (List.getElem?_eq_getElem (by rw [HX.out]; omega))⟩
      obtain ⟨v0, c0⟩ := c0
      obtain ⟨v1, c1⟩ := c1
      have f0 : w2.frozen? ⟨w.heap.size, k * 2, none⟩ = false := ho2.frozenAt _
      have f1 : w2.frozen? ⟨w.heap.size, k * 2 + 1, none⟩ = false := ho2.frozenAt _
      have HO2 : Hid (w2.ownsRow w.heap.size 135 2 (.slice (some ⟨w.heap.size, 0, none⟩) len len) len xs) := ho2
      clear ho2
      go_wp2
      go_roundw
      case rel =>
        have t0 := HO2.out.stored (k * 2) (.slice (some ⟨nb, 0, none⟩) n n)
        have t1 := t0.1.stored (k * 2 + 1) (.int .i64 m)
        have hsm : Same (w.heap.size + 1) w2 ((w2.setCell ⟨w.heap.size, k * 2, none⟩ (.slice (some ⟨nb, 0, none⟩) n n)).setCell ⟨w.heap.size, k * 2 + 1, none⟩ (.int .i64 m)) := (Same.of_set _ _ (by simp)).trans (Same.of_set _ _ (by simp))
        refine ⟨k + 1, _, by omega, by go_num, t1.1, ?_, ?_⟩
        · exact ((hb.trans (hb2.mono hb.size)).setCell (p := ⟨w.heap.size, _, none⟩) (Nat.le_refl _) _).setCell (p := ⟨w.heap.size, _, none⟩) (Nat.le_refl _) _
        · intro j p hj hp
          by_cases hjk : j = k
          · subst hjk
            rw [HG.out] at hp
            cases hp
            exact runHas_same (by rw [HX.out]; omega) (HL2.out.same hsm)
          · exact (HROW.out j p (by omega) hp).other hjk _ _ ((Same.of_below hb2).trans hsm)
      case measure => simp [intOf]; omega
    · go_wp2
      go_ret
      exact ⟨rfl, runsIn_of_row ho HLEN.out HWF.out (fun j p hp => HROW.out j p (by have := (List.getElem?_eq_some_iff.1 hp).1; rw [HLEN.out] at this; omega) hp), (ho.lt _ rfl).2, hb⟩
def LevHas (G : Nat) (w : World) (xs : List Value) (j : Nat) (p : List RunD) : Prop :=
  ∃ s n c, xs[j]? = some (.slice s n c) ∧ RunsIn (G + 1) w s n c p
theorem LevHas.other {G : Nat} {w w' : World} {xs : List Value} {j k : Nat} {p : List RunD} (h : LevHas G w xs j p) (hne : j ≠ k) (u0 : Value) (hs : Same (G + 1) w w') : LevHas G w' (xs.set k u0) j p := by
  obtain ⟨s, n, c, h0, h2⟩ := h
  exact ⟨s, n, c, by rw [List.getElem?_set_ne (by omega)]; exact h0, h2.same hs⟩
theorem levHas_same {G : Nat} {w : World} {xs : List Value} {k : Nat} {s : Option Addr} {n c : Nat} {B : List RunD} (h : k < xs.length) (hL : RunsIn (G + 1) w s n c B) : LevHas G w (xs.set k (.slice s n c)) k B :=
  ⟨s, n, c, by rw [List.getElem?_set_self (by omega)], hL⟩
theorem levelsIn_of_row {w : World} {base g n cap : Nat} {xs : List Value} {V : List (List RunD)} (h : w.ownsRow base 64 1 (.slice (some ⟨g, 0, none⟩) n cap) n xs) (hn : V.length = n) (_ : True)
    (hh : ∀ j p, V[j]? = some p → LevHas g w xs j p) : LevelsIn g w (some ⟨g, 0, none⟩) n cap V := by
  have hlt := (h.lt g rfl).2
  have hrc := row_rooms h
  refine ⟨hn, hrc.1, hrc.2, (fun e => by cases e), ?_, ?_⟩
  · rintro x e _
    cases e
    exact ⟨hlt, rfl, Nat.le_refl _⟩
  · rintro x e i hi
    cases e
    obtain ⟨s, m, c, r0, r2⟩ := hh i V[i] (List.getElem?_eq_getElem hi)
    refine ⟨s, m, c, ?_, r2.mono (by omega)⟩
    simp only [Nat.zero_add]
    exact (h.cellAt _ (by omega)).trans r0
set_option maxHeartbeats 1600000 in
theorem toRunSS_any (lo : Nat) (a : Option Addr) (len cap : Nat) (V : List (List RunD)) (w : World) (hP : LevelsIn lo w a len cap V) (hS : SmallV V) :
    Calls Tryz.prog 85 #[.slice a len cap] w fun e w' => e = .returned (.slice (some ⟨w.heap.size, 0, none⟩) len len) ∧ LevelsIn w.heap.size w' (some ⟨w.heap.size, 0, none⟩) len len V ∧ w.heap.size < w'.heap.size ∧ Below w.heap.size w w' := by
  have HLEN : Hid (V.length = len) := hP.length
  have HWF : Hid (True) := trivial
  have hbig : len ≤ 1048576 := by have := hP.length; have := hS.1; omega
  have HSM : Hid (SmallV V) := hS
  have HL : Hid (LevelsIn lo w a len cap V) := hP
  clear hP hS
  obtain ⟨i0, hi, hz0, hz1, hz2⟩ := info_parts Tryz.infoRunL
  go_enter Tryz.func85, Tryz.ntmps85
  go_wp2_with (at_make; refine wpList_make_full _ rfl _ _ 34 rfl w.heap.size 64 i0 _ 1 Tryz.underlying34 hi hz0 hz1 .i64 .i64 _ _ len rfl rfl (by simp) (by simp) (by rw [hz2]; omega) (by unfold maxLen; omega) (Nat.le_refl _) ?_; intro w1 hown hgrow)
  have hb1 : Below w.heap.size w w1 := (Below.refl _ _).grown hgrow (Nat.le_refl _) (by simp)
  have hsz1 : w.heap.size < w1.heap.size := (hown.lt _ rfl).2
  go_loopw [4] (fun i wr => ∃ (k : Nat) (xs : List Value), k ≤ len ∧ i = .int .i64 k ∧ wr.ownsRow w.heap.size 64 1 (.slice (some ⟨w.heap.size, 0, none⟩) len len) len xs ∧ Below w.heap.size w wr ∧ (∀ j p, j < k → V[j]? = some p → LevHas w.heap.size wr xs j p)) (fun i _ => len - (intOf i).toNat)
  case atStart => exact ⟨0, _, Nat.zero_le _, rfl, hown, hb1, fun j l h => absurd h (Nat.not_lt_zero _)⟩
  case round =>
    obtain ⟨k, xs, hk, rfl, ho, hb, hrow⟩ := hrel
    have HROW : Hid (∀ j p, j < k → V[j]? = some p → LevHas w.heap.size wr xs j p) := hrow
    clear hrow hown hgrow
    have hzr : w.heap.size < wr.heap.size := (ho.lt _ rfl).2
    by_cases hlt : k < len
    · obtain ⟨b, off, rfl, hbb⟩ := HL.out.form (by omega)
      obtain ⟨B, s, n, c, hg, g0, hLk⟩ := HL.out.level hb k hlt
      have hn : SmallR B := HSM.out.2 _ (List.mem_of_getElem? hg)
      have HG : Hid (V[k]? = some B) := hg
      have hbk : b < wr.heap.size := Nat.lt_of_lt_of_le hbb hb.size
      clear hg
      have hxl := ho.1
      have HX : Hid (xs.length = len * 1) := hxl
      clear hxl
      have HO : Hid (wr.ownsRow w.heap.size 64 1 (.slice (some ⟨w.heap.size, 0, none⟩) len len) len xs) := ho
      clear ho
      go_wp2_with fail
      refine (toRunS_any lo _ _ _ B _ hLk hn).mono ?_
      rintro e w2 ⟨rfl, hL2, _, hb2⟩
      have HL2 : Hid (RunsIn (w.heap.size + 1) w2 (some ⟨wr.heap.size, 0, none⟩) n n B) := hL2.mono hzr
      clear hL2 hLk hn
      have ho2 : w2.ownsRow w.heap.size 64 1 (.slice (some ⟨w.heap.size, 0, none⟩) len len) len xs := HO.out.kept (row := none) ⟨hb2.os, hb2.tape, hb2.output, hb2.size, fun k hk _ => hb2.block k hk⟩ (.inr (by simp [Value.ownBlock]))
      have c0 : ∃ v, w2.cell? ⟨w.heap.size, k, none⟩ = some v := ⟨_, (ho2.cellAt _ (by omega)).trans (List.getElem?_eq_getElem (by rw [HX.out]; omega))⟩
      obtain ⟨v0, c0⟩ := c0
      have f0 : w2.frozen? ⟨w.heap.size, k, none⟩ = false := ho2.frozenAt _
      have HO2 : Hid (w2.ownsRow w.heap.size 64 1 (.slice (some ⟨w.heap.size, 0, none⟩) len len) len xs) := ho2
      clear ho2
      go_wp2
      go_roundw
      case rel =>
        have t0 := HO2.out.stored k (.slice (some ⟨wr.heap.size, 0, none⟩) n n)
        have hsm : Same (w.heap.size + 1) w2 (w2.setCell ⟨w.heap.size, k, none⟩ (.slice (some ⟨wr.heap.size, 0, none⟩) n n)) := Same.of_set _ _ (by simp)
        refine ⟨k + 1, _, by omega, by go_num, t0.1, ?_, ?_⟩
        · exact (hb.trans (hb2.mono hb.size)).setCell (p := ⟨w.heap.size, _, none⟩) (Nat.le_refl _) _
        · intro j p hj hp
          by_cases hjk : j = k
          · subst hjk
            rw [HG.out] at hp
            cases hp
            exact levHas_same (by rw [HX.out]; omega) (HL2.out.same hsm)
          · exact (HROW.out j p (by omega) hp).other hjk _ ((Same.of_below hb2).trans hsm)
      case measure => simp [intOf]; omega
    · go_wp2
      go_ret
      exact ⟨rfl, levelsIn_of_row ho HLEN.out HWF.out (fun j p hp => HROW.out j p (by have := (List.getElem?_eq_some_iff.1 hp).1; rw [HLEN.out] at this; omega) hp), (ho.lt _ rfl).2, hb⟩
theorem intsIn_of_row {w : World} {base g n cap : Nat} {xs : List Value} {S : List Int} (h : w.ownsRow base 3 1 (.slice (some ⟨g, 0, none⟩) n cap) n xs) (hn : S.length = n) (hw : ∀ q ∈ S, (Lit.int .i64 q).wf = true)
    (hh : ∀ (j : Nat) (q : Int), S[j]? = some q → xs[j]? = some (Value.int .i64 q)) : IntsIn g w (some ⟨g, 0, none⟩) n cap S := by
  have hlt := (h.lt g rfl).2
  have hrc := row_rooms h
  refine ⟨hn, hrc.1, hrc.2, hw, (fun e => by cases e), ?_, ?_⟩
  · rintro x e _
    cases e
    exact ⟨hlt, rfl, Nat.le_refl _⟩
  · rintro x e i hi
    cases e
    simp only [Nat.zero_add]
    exact (h.cellAt _ (by omega)).trans (hh i _ (List.getElem?_eq_getElem hi))
set_option maxHeartbeats 1600000 in
theorem toIntS_any (lo : Nat) (a : Option Addr) (len cap : Nat) (S : List Int) (w : World) (hP : IntsIn lo w a len cap S) (hbig : len ≤ 1048576) :
    Calls Tryz.prog 86 #[.slice a len cap] w fun e w' => e = .returned (.slice (some ⟨w.heap.size, 0, none⟩) len len) ∧ IntsIn w.heap.size w' (some ⟨w.heap.size, 0, none⟩) len len S ∧ w.heap.size < w'.heap.size ∧ Below w.heap.size w w' := by
  have HLEN : Hid (S.length = len) := hP.length
  have HWF : Hid (∀ q ∈ S, (Lit.int .i64 q).wf = true) := hP.wfs
  have HL : Hid (IntsIn lo w a len cap S) := hP
  clear hP
  obtain ⟨i0, hi, hz0, hz1, hz2⟩ := info_parts Tryz.infoInt
  go_enter Tryz.func86, Tryz.ntmps86
  go_wp2_with (at_make; refine wpList_make_full _ rfl _ _ 24 rfl w.heap.size 3 i0 _ 1 Tryz.underlying24 hi hz0 hz1 .i64 .i64 _ _ len rfl rfl (by simp) (by simp) (by rw [hz2]; omega) (by unfold maxLen; omega) (Nat.le_refl _) ?_; intro w1 hown hgrow)
  have hb1 : Below w.heap.size w w1 := (Below.refl _ _).grown hgrow (Nat.le_refl _) (by simp)
  go_loopw [4] (fun i wr => ∃ (k : Nat) (xs : List Value), k ≤ len ∧ i = .int .i64 k ∧ wr.ownsRow w.heap.size 3 1 (.slice (some ⟨w.heap.size, 0, none⟩) len len) len xs ∧ Below w.heap.size w wr ∧ (∀ j q, j < k → S[j]? = some q → xs[j]? = some (Value.int .i64 q))) (fun i _ => len - (intOf i).toNat)
  case atStart => exact ⟨0, _, Nat.zero_le _, rfl, hown, hb1, fun j l h => absurd h (Nat.not_lt_zero _)⟩
  case round =>
    obtain ⟨k, xs, hk, rfl, ho, hb, hrow⟩ := hrel
    have HROW : Hid (∀ j q, j < k → S[j]? = some q → xs[j]? = some (Value.int .i64 q)) := hrow
    clear hrow hown hgrow
    by_cases hlt : k < len
    · obtain ⟨b, off, rfl, hbb⟩ := HL.out.form (by omega)
      obtain ⟨q, hg, _, g0⟩ := HL.out.num hb k hlt
      have HG : Hid (S[k]? = some q) := hg
      have hbk : b < wr.heap.size := Nat.lt_of_lt_of_le hbb hb.size
      have hzr : w.heap.size < wr.heap.size := (ho.lt _ rfl).2
      clear hg
      have hxl := ho.1
      have HX : Hid (xs.length = len * 1) := hxl
      clear hxl
      have c0 : ∃ v, wr.cell? ⟨w.heap.size, k, none⟩ = some v := ⟨_, (ho.cellAt _ (by omega)).trans (List.getElem?_eq_getElem (by rw [HX.out]; omega))⟩
      obtain ⟨v0, c0⟩ := c0
      have f0 : wr.frozen? ⟨w.heap.size, k, none⟩ = false := ho.frozenAt _
      have HO : Hid (wr.ownsRow w.heap.size 3 1 (.slice (some ⟨w.heap.size, 0, none⟩) len len) len xs) := ho
      clear ho
      go_wp2
      go_roundw
      case rel =>
        have t0 := HO.out.stored k (.int .i64 q)
        refine ⟨k + 1, _, by omega, by go_num, t0.1, hb.setCell (p := ⟨w.heap.size, _, none⟩) (Nat.le_refl _) _, ?_⟩
        intro j p hj hp
        by_cases hjk : j = k
        · subst hjk
          rw [HG.out] at hp
          cases hp
          rw [List.getElem?_set_self (by rw [HX.out]; omega)]
        · rw [List.getElem?_set_ne (by omega)]
          exact HROW.out j p (by omega) hp
      case measure => simp [intOf]; omega
    · go_wp2
      go_ret
      exact ⟨rfl, intsIn_of_row ho HLEN.out HWF.out (fun j p hp => HROW.out j p (by have := (List.getElem?_eq_some_iff.1 hp).1; rw [HLEN.out] at this; omega) hp), (ho.lt _ rfl).2, hb⟩
end Go.Proofs.YtapjkbpfhmbfaaaGreatDoor
