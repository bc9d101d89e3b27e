/-
  The laws' own helpers over a list of postings (its size, its copy, that two are the same), by walks of their Go text.
-/
import Derived.Test.YtfblpbihpmhgjaaDoorBp04
import Derived.Test.YtfblpbihpmhgjaaDoorBp09
namespace Go.Proofs.YtfblpbihpmhgjaaDoor
open Go.RowKit

theorem Tryd.infoPost : (Tryd.prog.info? 29).map (fun i => (i.zero, i.size, i.bytes)) = some (some (.agg #[.int .i64 0, .slice none 0 0]), 2, 32) := by kernel_rfl

set_option maxHeartbeats 800000 in
theorem szPostS_any (a : Option Addr) (len cap : Nat) (B : List PostD) (left : Int) (w : World) (hP : PostsAt w a len cap B) (h0 : 0 ≤ left) (h1 : left ≤ 1048576) :
    Calls Tryd.prog 38 #[.slice a len cap, .int .i64 left] w fun e w' => ∃ r : Int, e = .returned (.int .i64 r) ∧ (r = -1 ∨ (0 ≤ r ∧ r ≤ left ∧ (len : Int) ≤ left ∧ ∀ p ∈ B, (p.2.length : Int) ≤ left)) ∧ Below w.heap.size w w' := by
  have hbl := hP.room
  have hbc := hP.big
  unfold maxLen at hbc
  have HL : Hid (PostsAt w a len cap B) := hP
  have HLEN : Hid (B.length = len) := hP.length
  clear hP
  by_cases hb : left < len
  · go_enter Tryd.func38, Tryd.ntmps38
    go_wp2
    go_ret
    exact ⟨-1, rfl, Or.inl rfl, Below.refl _ _⟩
  · go_enter Tryd.func38, Tryd.ntmps38
    go_wp2
    go_loopw [1, 5] (fun l i wr => ∃ (k : Nat) (r : Int), k ≤ len ∧ i = .int .i64 k ∧ l = .int .i64 r ∧ 0 ≤ r ∧ r ≤ left ∧ Below w.heap.size w wr ∧ ∀ j p, j < k → B[j]? = some p → (p.2.length : Int) ≤ left) (fun _ i _ => len - (intOf i).toNat)
    case atStart => exact ⟨0, left - len, Nat.zero_le _, rfl, rfl, by omega, by omega, Below.refl _ _, fun j p hj => by omega⟩
    case round =>
      obtain ⟨k, r, hk, rfl, rfl, hr0, hr1, hbw, hall⟩ := hrel
      have HALL : Hid (∀ j p, j < k → B[j]? = some p → (p.2.length : Int) ≤ left) := hall
      clear hall
      by_cases hlt : k < len
      · obtain ⟨b, off, rfl, hbb⟩ := HL.out.form (by omega)
        obtain ⟨id, L, s, n, c, hg, hwf, g0, g1, hLk⟩ := HL.out.post hbw k hlt
        have HG : Hid (B[k]? = some (id, L)) := hg
        have HLN : Hid (L.length = n) := hLk.length
        have hbk : b < wr.heap.size := Nat.lt_of_lt_of_le hbb hbw.size
        clear hg hwf
        go_wp2_with (go_at_call 11; refine (szPost_any _ _ _ _ L _ _ hLk hr0 (by omega)).mono ?_; rintro e w1 ⟨r', rfl, hr', hb1⟩; rcases hr' with rfl | ⟨hr0', hr1', hln⟩)
        · go_ret
          exact ⟨-1, rfl, Or.inl rfl, hbw.trans (hb1.mono hbw.size)⟩
        · go_wp2
          go_roundw
          case rel =>
            refine ⟨k + 1, r', by omega, by go_num, rfl, hr0', by omega, hbw.trans (hb1.mono hbw.size), fun j p hj hp => ?_⟩
            by_cases hjk : j = k
            · subst hjk
              rw [HG.out] at hp
              cases hp
              have := HLN.out
              simp only
              omega
            · exact HALL.out j p (by omega) hp
          case measure => simp [intOf]; omega
      · go_wp2
        go_ret
        refine ⟨r, rfl, Or.inr ⟨hr0, hr1, by omega, fun p hp => ?_⟩, hbw⟩
        obtain ⟨j, hj, rfl⟩ := List.getElem_of_mem hp
        exact HALL.out j _ (by have := HLEN.out; omega) (List.getElem?_eq_getElem hj)

/-- Posting number j lies in the row xs, its legs outside block G. -/
def PostHas (G : Nat) (w : World) (xs : List Value) (j : Nat) (p : PostD) : Prop :=
  xs[j * 2]? = some (.int .i64 p.1) ∧ ∃ s n c, xs[j * 2 + 1]? = some (.slice s n c) ∧ LegsAt w s n c p.2 ∧ (∀ x, s = some x → 0 < n → x.block ≠ G)

theorem PostHas.other {G : Nat} {w w' : World} {xs : List Value} {j k : Nat} {p : PostD} (h : PostHas G w xs j p) (hne : j ≠ k) (u0 u1 : Value) (hk : ∀ s n c L, LegsAt w s n c L → (∀ x, s = some x → 0 < n → x.block ≠ G) → LegsAt w' s n c L) : PostHas G w' ((xs.set (k * 2) u0).set (k * 2 + 1) u1) j p := by
  obtain ⟨h0, s, n, c, h1, h2, h3⟩ := h
  refine ⟨?_, s, n, c, ?_, hk _ _ _ _ h2 h3, h3⟩ <;> (repeat rw [List.getElem?_set_ne (by omega)]) <;> assumption
theorem postHas_same {G : Nat} {w : World} {xs : List Value} {k : Nat} {id : Int} {s : Option Addr} {n c : Nat} {L : List LegD} (h : k * 2 + 1 < xs.length) (hL : LegsAt w s n c L) (hne : ∀ x, s = some x → 0 < n → x.block ≠ G) : PostHas G w ((xs.set (k * 2) (.int .i64 id)).set (k * 2 + 1) (.slice s n c)) k (id, L) := by
  refine ⟨?_, s, n, c, ?_, hL, hne⟩
  · rw [List.getElem?_set_ne (by omega), List.getElem?_set_self (by omega)]
  · rw [List.getElem?_set_self (by simp; omega)]

theorem postsAt_of_row {w : World} {base g n cap : Nat} {xs : List Value} {B : List PostD} (h : w.ownsRow base 29 2 (.slice (some ⟨g, 0, none⟩) n cap) n xs) (hn : B.length = n) (hw : ∀ p ∈ B, (Lit.int .i64 p.1).wf = true)
    (hh : ∀ j p, B[j]? = some p → PostHas g w xs j p) : PostsAt w (some ⟨g, 0, none⟩) n cap B := by
  have hlt := (h.lt g rfl).2
  have hrc : n ≤ cap ∧ cap ≤ maxLen := by
    rcases h.2 with ⟨h', _⟩ | ⟨g', cap', cur, h', _, _, hnc, hcm, _, _⟩
    · simp at h'
    · simp only [Value.slice.injEq, Option.some.injEq, Addr.mk.injEq, and_true, true_and] at h'
      obtain ⟨rfl, rfl⟩ := h'
      exact ⟨hnc, hcm⟩
  refine ⟨hn, hrc.1, hrc.2, (fun e => by cases e), ?_, ?_⟩
  · rintro x e _
    cases e
    exact ⟨hlt, rfl⟩
  · rintro x e i hi
    cases e
    obtain ⟨r0, s, m, c, r1, r2, _⟩ := hh i B[i] (List.getElem?_eq_getElem hi)
    refine ⟨hw _ (List.getElem_mem hi), s, m, c, ?_, ?_, r2⟩
    · simp only [Nat.zero_add]
      exact (h.cellAt _ (by omega)).trans r0
    · simp only [Nat.zero_add]
      exact (h.cellAt _ (by omega)).trans r1

theorem PostsAt.wfs {w : World} {a : Option Addr} {len cap : Nat} {B : List PostD} (h : PostsAt w a len cap B) : ∀ p ∈ B, (Lit.int .i64 p.1).wf = true := by
  intro p hp
  obtain ⟨j, hj, rfl⟩ := List.getElem_of_mem hp
  obtain ⟨b, off, rfl, _⟩ := h.form (by have := h.length; omega)
  exact (h.posts _ rfl j hj).1

set_option maxHeartbeats 1600000 in
theorem toPostS_any (a : Option Addr) (len cap : Nat) (B : List PostD) (w : World) (hP : PostsAt w a len cap B) (hbig : len ≤ 1048576) (hlegs : ∀ p ∈ B, p.2.length ≤ 1048576) :
    Calls Tryd.prog 40 #[.slice a len cap] w fun e w' => e = .returned (.slice (some ⟨w.heap.size, 0, none⟩) len len) ∧ PostsAt w' (some ⟨w.heap.size, 0, none⟩) len len B ∧ w.heap.size < w'.heap.size ∧ Below w.heap.size w w' := by
  have HLEN : Hid (B.length = len) := hP.length
  have HWF : Hid (∀ p ∈ B, (Lit.int .i64 p.1).wf = true) := hP.wfs
  have HLEGS : Hid (∀ p ∈ B, p.2.length ≤ 1048576) := hlegs
  have HL : Hid (PostsAt w a len cap B) := hP
  clear hP hlegs
  obtain ⟨i0, hi, hz0, hz1, hz2⟩ := info_parts Tryd.infoPost
  go_enter Tryd.func40, Tryd.ntmps40
  go_wp2_with (at_make; refine wpList_make_full _ rfl _ _ 57 rfl w.heap.size 29 i0 _ 2 Tryd.underlying57 hi hz0 hz1 .i64 .i64 _ _ len rfl rfl (by simp) (by simp) (by rw [hz2]; omega) (by unfold maxLen; omega) (Nat.le_refl _) ?_; intro w1 hown hgrow)
  have hb1 : Below w.heap.size w w1 := (Below.refl _ _).grown hgrow (Nat.le_refl _) (by simp)
  have hsz1 : w.heap.size < w1.heap.size := (hown.lt _ rfl).2
  go_loopw [4] (fun i wr => ∃ (k : Nat) (xs : List Value), k ≤ len ∧ i = .int .i64 k ∧ wr.ownsRow w.heap.size 29 2 (.slice (some ⟨w.heap.size, 0, none⟩) len len) len xs ∧ Below w.heap.size w wr ∧ (∀ j p, j < k → B[j]? = some p → PostHas w.heap.size wr xs j p)) (fun i _ => len - (intOf i).toNat)
  case atStart => exact ⟨0, _, Nat.zero_le _, rfl, hown, hb1, fun j l h => absurd h (Nat.not_lt_zero _)⟩
  case round =>
    obtain ⟨k, xs, hk, rfl, ho, hb, hrow⟩ := hrel
    have HROW : Hid (∀ j p, j < k → B[j]? = some p → PostHas w.heap.size wr xs j p) := hrow
    clear hrow hown hgrow
    have hzr : w.heap.size < wr.heap.size := (ho.lt _ rfl).2
    by_cases hlt : k < len
    · obtain ⟨b, off, rfl, hbb⟩ := HL.out.form (by omega)
      obtain ⟨id, L, s, n, c, hg, hwf, g0, g1, hLk⟩ := HL.out.post hb k hlt
      have hn : n ≤ 1048576 := by
        have := HLEGS.out _ (List.mem_of_getElem? hg)
        have := hLk.length
        simp only at *
        omega
      have HG : Hid (B[k]? = some (id, L)) := hg
      have hbk : b < wr.heap.size := Nat.lt_of_lt_of_le hbb hb.size
      clear hg hwf
      have hxl := ho.1
      have HX : Hid (xs.length = len * 2) := hxl
      clear hxl
      have HO : Hid (wr.ownsRow w.heap.size 29 2 (.slice (some ⟨w.heap.size, 0, none⟩) len len) len xs) := ho
      clear ho
      go_wp2_with fail
      refine (toPost_any _ _ _ _ L _ hLk hn).mono ?_
      rintro e w2 ⟨nb, rfl, hnb1, hnb2, hL2, hb2⟩
      have ho2 : w2.ownsRow w.heap.size 29 2 (.slice (some ⟨w.heap.size, 0, none⟩) len len) len xs := HO.out.kept (row := none) ⟨hb2.os, hb2.tape, hb2.output, hb2.size, fun k hk _ => hb2.block k hk⟩ (.inr (by simp [Value.ownBlock]))
      have c0 : ∃ v, w2.cell? ⟨w.heap.size, k * 2, none⟩ = some v := ⟨_, (ho2.cellAt _ (by omega)).trans (List.getElem?_eq_getElem (by rw [HX.out]; omega))⟩
      have c1 : ∃ v, w2.cell? ⟨w.heap.size, k * 2 + 1, none⟩ = some v := ⟨_, (ho2.cellAt _ (by omega)).trans (List.getElem?_eq_getElem (by rw [HX.out]; omega))⟩
      obtain ⟨v0, c0⟩ := c0
      obtain ⟨v1, c1⟩ := c1
      have f0 : w2.frozen? ⟨w.heap.size, k * 2, none⟩ = false := ho2.frozenAt _
      have f1 : w2.frozen? ⟨w.heap.size, k * 2 + 1, none⟩ = false := ho2.frozenAt _
      have HO2 : Hid (w2.ownsRow w.heap.size 29 2 (.slice (some ⟨w.heap.size, 0, none⟩) len len) len xs) := ho2
      have HL2 : Hid (LegsAt w2 (some ⟨nb, 0, none⟩) n n L) := hL2
      clear ho2 hL2 hLk
      go_wp2
      go_roundw
      case rel =>
        have t0 := HO2.out.stored (k * 2) (.int .i64 id)
        have t1 := t0.1.stored (k * 2 + 1) (.slice (some ⟨nb, 0, none⟩) n n)
        have hset : ∀ s n c L, LegsAt w2 s n c L → (∀ x, s = some x → 0 < n → x.block ≠ w.heap.size) → LegsAt ((w2.setCell ⟨w.heap.size, k * 2, none⟩ (.int .i64 id)).setCell ⟨w.heap.size, k * 2 + 1, none⟩ (.slice (some ⟨nb, 0, none⟩) n n)) s n c L := fun s n c L hl hne => (hl.setCell _ _ hne).setCell _ _ hne
        refine ⟨k + 1, _, by omega, by go_num, t1.1, ?_, ?_⟩
        · exact ((hb.trans (hb2.mono hb.size)).setCell (p := ⟨w.heap.size, _, none⟩) (Nat.le_refl _) _).setCell (p := ⟨w.heap.size, _, none⟩) (Nat.le_refl _) _
        · intro j p hj hp
          by_cases hjk : j = k
          · subst hjk
            rw [HG.out] at hp
            cases hp
            have hne : ∀ x, some (⟨nb, 0, none⟩ : Addr) = some x → 0 < n → x.block ≠ w.heap.size := by rintro x e _; cases e; simp only; omega
            exact postHas_same (by rw [HX.out]; omega) ((HL2.out.setCell _ _ hne).setCell _ _ hne) hne
          · refine (HROW.out j p (by omega) hp).other hjk _ _ ?_
            intro s n c L hl hne
            exact ((hl.keep hb2).setCell _ _ hne).setCell _ _ hne
      case measure => simp [intOf]; omega
    · go_wp2
      go_ret
      exact ⟨rfl, postsAt_of_row ho HLEN.out HWF.out (fun j p hp => HROW.out j p (by have := (List.getElem?_eq_some_iff.1 hp).1; rw [HLEN.out] at this; omega) hp), (ho.lt _ rfl).2, hb⟩

set_option maxHeartbeats 800000 in
theorem eqLegS_opt (a1 a2 : Option Addr) (len cap1 cap2 : Nat) (L : List LegD) (w : World) (h1 : LegsAt w a1 len cap1 L) (h2 : LegsAt w a2 len cap2 L) :
    Calls Tryd.prog 51 #[.slice a1 len cap1, .slice a2 len cap2] w fun e w' => e = .returned (.bool true) ∧ Below w.heap.size w w' := by
  by_cases h0 : len = 0
  · subst h0
    go_enter Tryd.func51, Tryd.ntmps51
    go_wp2
    go_loopw [5] (fun i wr => i = .int .i64 0 ∧ Below w.heap.size w wr) (fun i _ => 0)
    case atStart => exact ⟨rfl, Below.refl _ _⟩
    case round =>
      obtain ⟨rfl, hb⟩ := hrel
      go_wp2
      go_ret
      exact ⟨rfl, hb⟩
  · obtain ⟨b1, o1, rfl, _⟩ := h1.form (by omega)
    obtain ⟨b2, o2, rfl, _⟩ := h2.form (by omega)
    exact eqLegS_same _ _ _ _ _ _ _ L _ h1 h2

set_option maxHeartbeats 800000 in
theorem eqPost_opt (id : Int) (a1 a2 : Option Addr) (len cap1 cap2 : Nat) (L : List LegD) (w : World) (h1 : LegsAt w a1 len cap1 L) (h2 : LegsAt w a2 len cap2 L) :
    Calls Tryd.prog 15 #[.agg #[.int .i64 id, .slice a1 len cap1], .agg #[.int .i64 id, .slice a2 len cap2]] w fun e w' => e = .returned (.bool true) ∧ Below w.heap.size w w' := by
  have hB : Below w.heap.size w ((w.alloc (.cells #[.int .i64 id, .slice a1 len cap1] 29)).alloc (.cells #[.int .i64 id, .slice a2 len cap2] 29)) := ((Below.refl _ _).alloc (Nat.le_refl _) _).alloc (by simp) _
  go_enter Tryd.func15, Tryd.ntmps15
  go_wp2_with (go_at_call 51; refine (eqLegS_opt _ _ _ _ _ L _ (h1.keep hB) (h2.keep hB)).mono ?_; rintro e w1 ⟨rfl, hb1⟩)
  go_ret
  exact ⟨rfl, hB.trans (hb1.mono (by simp; omega))⟩

set_option maxHeartbeats 1600000 in
theorem eqPostS_same (a1 a2 : Option Addr) (len cap1 cap2 : Nat) (B : List PostD) (w : World) (h1 : PostsAt w a1 len cap1 B) (h2 : PostsAt w a2 len cap2 B) :
    Calls Tryd.prog 42 #[.slice a1 len cap1, .slice a2 len cap2] w fun e w' => e = .returned (.bool true) ∧ Below w.heap.size w w' := by
  have hbl := h1.room
  have hbc := h1.big
  unfold maxLen at hbc
  have H1 : Hid (PostsAt w a1 len cap1 B) := h1
  have H2 : Hid (PostsAt w a2 len cap2 B) := h2
  clear h1 h2
  go_enter Tryd.func42, Tryd.ntmps42
  go_wp2
  go_loopw [5] (fun i wr => ∃ k : Nat, k ≤ len ∧ i = .int .i64 k ∧ Below w.heap.size w wr) (fun i _ => len - (intOf i).toNat)
  case atStart => exact ⟨0, Nat.zero_le _, rfl, Below.refl _ _⟩
  case round =>
    obtain ⟨k, hk, rfl, hb⟩ := hrel
    by_cases hlt : k < len
    · obtain ⟨b1, o1, rfl, hb1⟩ := H1.out.form (by omega)
      obtain ⟨b2, o2, rfl, hb2⟩ := H2.out.form (by omega)
      obtain ⟨id, L, s, n, c, hg, hwf, g0, g1, hLk⟩ := H1.out.post hb k hlt
      obtain ⟨id', L', s', n', c', hg', hwf', q0, q1, hLk'⟩ := H2.out.post hb k hlt
      rw [hg] at hg'
      cases hg'
      obtain rfl : n' = n := hLk'.length.symm.trans hLk.length
      have hb1' : b1 < wr.heap.size := Nat.lt_of_lt_of_le hb1 hb.size
      have hb2' : b2 < wr.heap.size := Nat.lt_of_lt_of_le hb2 hb.size
      have lk := hLk.keep ((Below.refl _ wr).drew)
      have lk' := hLk'.keep ((Below.refl _ wr).drew)
      clear hg hwf hwf' hLk hLk'
      have hltI : (k : Int) < (len : Int) := by omega
      go_wp2_with fail
      go_region_with (go_at_call 15; refine (eqPost_opt _ _ _ _ _ _ L _ lk lk').mono ?_; rintro e w1 ⟨rfl, hb1⟩)
      all_goals
        go_wp2
        go_roundw
        case rel => exact ⟨k + 1, by omega, by go_num, hb.drew.trans (hb1.mono hb.size)⟩
        case measure => simp [intOf]; omega
    · go_wp2
      go_ret
      exact ⟨rfl, hb⟩
end Go.Proofs.YtfblpbihpmhgjaaDoor
