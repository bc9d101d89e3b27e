/-
  What the document's and the program's TreeSame (and the library's slices.EqualFunc on runs and levels, slices.Equal on numbers) answer at every two trees, by walks of their Go text.
-/
import Derived.Test.YtkeodfajgpbgaaaRuns
import Derived.Test.YtkeodfajgpbgaaaRunSame
import Derived.Deep.RegionWith
import Derived.Shelf.GgClosure.Gives
namespace Go.Proofs.Ytkeodfajgpbgaaa
open Go.RowKit

instance decRun : DecidableEq RunD := instDecidableEqProd

theorem take_snoc_eq {α : Type} {B1 B2 : List α} {k : Nat} {x y : α} (h1 : B1[k]? = some x) (h2 : B2[k]? = some y) (hs : x = y) (h : B1.take k = B2.take k) : B1.take (k + 1) = B2.take (k + 1) := by
  subst hs
  rw [List.take_add_one, List.take_add_one, h1, h2, h]
theorem ne_of_at {α : Type} {B1 B2 : List α} {k : Nat} {x y : α} (h1 : B1[k]? = some x) (h2 : B2[k]? = some y) (hs : ¬ x = y) : ¬ B1 = B2 := by
  rintro rfl
  rw [h1] at h2
  cases h2
  exact hs rfl
theorem runSame_iff {m m' : Int} {L L' : List EntD} : runSameB m L m' L' = decide (((L, m) : RunD) = (L', m')) := by
  unfold runSameB
  by_cases h1 : m = m' <;> by_cases h2 : L = L' <;> simp [h1, h2]

set_option maxHeartbeats 1600000 in
theorem runsEqual (lo1 lo2 : Nat) (a1 a2 : Option Addr) (n1 c1 n2 c2 : Nat) (B1 B2 : List RunD) (w : World) (h1 : RunsIn lo1 w a1 n1 c1 B1) (h2 : RunsIn lo2 w a2 n2 c2 B2) :
    Calls Try.prog 157 #[.slice a1 n1 c1, .slice a2 n2 c2, .func (.func 158) #[] #[]] w fun e w' => e = .returned (.bool (decide (B1 = B2))) ∧ Below w.heap.size w w' := by
  have HN1 : Hid (B1.length = n1) := h1.length
  have HN2 : Hid (B2.length = n2) := h2.length
  have hr1 := h1.room
  have hb1 := h1.big
  have hr2 := h2.room
  have hb2 := h2.big
  unfold maxLen at hb1 hb2
  have H1 : Hid (RunsIn lo1 w a1 n1 c1 B1) := h1
  have H2 : Hid (RunsIn lo2 w a2 n2 c2 B2) := h2
  have eg : ∀ args w, (callFunc 158 args).run Try.prog w = .ok (.enter 158 args) w := enters_of Try.func158 (by kernel_rfl) rfl
  clear h1 h2
  by_cases hn : n1 = n2
  · subst hn
    go_enter Try.func157, Try.ntmps157
    go_wp2
    go_loopw [17] (fun i wr => ∃ k : Nat, k ≤ n1 ∧ i = .int .i64 k ∧ Below w.heap.size w wr ∧ B1.take k = B2.take k) (fun i _ => n1 - (intOf i).toNat)
    case atStart => exact ⟨0, Nat.zero_le _, rfl, Below.refl _ _, rfl⟩
    case round =>
      obtain ⟨k, hk, rfl, hb, heq⟩ := hrel
      have HEQ : Hid (B1.take k = B2.take k) := heq
      clear heq
      by_cases hlt : k < n1
      · obtain ⟨x1, o1, rfl, hx1⟩ := H1.out.form (by omega)
        obtain ⟨x2, o2, rfl, hx2⟩ := H2.out.form (by omega)
        obtain ⟨L, m, s, n, c, hg, _, g0, g1, hL⟩ := H1.out.run hb k hlt
        obtain ⟨L', m', s', n', c', hg', _, q0, q1, hL'⟩ := H2.out.run hb k hlt
        have HG : Hid (B1[k]? = some (L, m)) := hg
        have HG' : Hid (B2[k]? = some (L', m')) := hg'
        have hltI : (k : Int) < (n1 : Int) := by omega
        have y1 : x1 < wr.heap.size := Nat.lt_of_lt_of_le hx1 hb.size
        have y2 : x2 < wr.heap.size := Nat.lt_of_lt_of_le hx2 hb.size
        clear hg hg'
        have k2 : Below wr.heap.size wr ((wr.alloc (.cells #[.slice s n c, .int .i64 m] 100)).alloc (.cells #[.slice s' n' c', .int .i64 m'] 100)) := ((Below.refl _ _).alloc (Nat.le_refl _) _).alloc (by simp) _
        obtain ⟨q, hq⟩ : ∃ q, decide (((L, m) : RunD) = (L', m')) = q := ⟨_, rfl⟩
        have HQ : Hid (decide (((L, m) : RunD) = (L', m')) = q) := hq
        clear hq
        cases q with
        | true =>
          go_wp2_with (go_at_fn 158; refine (implRunSame _ _ _ _ _ _ _ _ L L' _ (hL.1.keep k2) (hL'.1.keep k2)).mono ?_; rw [runSame_iff, HQ.out]; rintro e w1 ⟨rfl, hb1⟩)
          go_roundw
          case rel => exact ⟨k + 1, by omega, by go_num, hb.trans ((k2.trans (hb1.mono k2.size)).mono hb.size), take_snoc_eq HG.out HG'.out (of_decide_eq_true HQ.out) HEQ.out⟩
          case measure => simp [intOf]; omega
        | false =>
          go_wp2_with (go_at_fn 158; refine (implRunSame _ _ _ _ _ _ _ _ L L' _ (hL.1.keep k2) (hL'.1.keep k2)).mono ?_; rw [runSame_iff, HQ.out]; rintro e w1 ⟨rfl, hb1⟩)
          go_ret
          exact ⟨ret_bool (decide_eq_false (ne_of_at HG.out HG'.out (of_decide_eq_false HQ.out))).symm, hb.trans ((k2.trans (hb1.mono k2.size)).mono hb.size)⟩
      · go_wp2
        go_ret
        refine ⟨ret_bool (decide_eq_true ?_).symm, hb⟩
        have := HEQ.out
        rw [List.take_of_length_le (by rw [HN1.out]; omega), List.take_of_length_le (by rw [HN2.out]; omega)] at this
        exact this
  · go_enter Try.func157, Try.ntmps157
    go_wp2
    go_ret
    refine ⟨ret_bool (decide_eq_false ?_).symm, Below.refl _ _⟩
    intro e
    rw [e, HN2.out] at HN1
    exact hn HN1.out.symm

set_option maxHeartbeats 400000 in
theorem areSameRuns_any (lo1 lo2 : Nat) (a1 a2 : Option Addr) (n1 c1 n2 c2 : Nat) (B1 B2 : List RunD) (w : World) (h1 : RunsIn lo1 w a1 n1 c1 B1) (h2 : RunsIn lo2 w a2 n2 c2 B2) :
    Calls Try.prog 92 #[.slice a1 n1 c1, .slice a2 n2 c2] w fun e w' => e = .returned (.bool (decide (B1 = B2))) ∧ Below w.heap.size w w' := by
  go_enter Try.func92, Try.ntmps92
  go_wp2_with (go_at_call 157; refine (runsEqual lo1 lo2 _ _ _ _ _ _ B1 B2 _ h1 h2).mono ?_; rintro e w1 ⟨rfl, hb1⟩)
  go_ret
  exact ⟨rfl, hb1⟩

set_option maxHeartbeats 1600000 in
theorem levelsEqual (lo1 lo2 : Nat) (a1 a2 : Option Addr) (n1 c1 n2 c2 : Nat) (B1 B2 : List (List RunD)) (w : World) (h1 : LevelsIn lo1 w a1 n1 c1 B1) (h2 : LevelsIn lo2 w a2 n2 c2 B2) :
    Calls Try.prog 91 #[.slice a1 n1 c1, .slice a2 n2 c2, .func (.func 92) #[] #[]] w fun e w' => e = .returned (.bool (decide (B1 = B2))) ∧ Below w.heap.size w w' := by
  have HN1 : Hid (B1.length = n1) := h1.length
  have HN2 : Hid (B2.length = n2) := h2.length
  have hr1 := h1.room
  have hb1 := h1.big
  have hr2 := h2.room
  have hb2 := h2.big
  unfold maxLen at hb1 hb2
  have H1 : Hid (LevelsIn lo1 w a1 n1 c1 B1) := h1
  have H2 : Hid (LevelsIn lo2 w a2 n2 c2 B2) := h2
  have eg : ∀ args w, (callFunc 92 args).run Try.prog w = .ok (.enter 92 args) w := enters_of Try.func92 (by kernel_rfl) rfl
  clear h1 h2
  by_cases hn : n1 = n2
  · subst hn
    go_enter Try.func91, Try.ntmps91
    go_wp2
    go_loopw [17] (fun i wr => ∃ k : Nat, k ≤ n1 ∧ i = .int .i64 k ∧ Below w.heap.size w wr ∧ B1.take k = B2.take k) (fun i _ => n1 - (intOf i).toNat)
    case atStart => exact ⟨0, Nat.zero_le _, rfl, Below.refl _ _, rfl⟩
    case round =>
      obtain ⟨k, hk, rfl, hb, heq⟩ := hrel
      have HEQ : Hid (B1.take k = B2.take k) := heq
      clear heq
      by_cases hlt : k < n1
      · obtain ⟨x1, o1, rfl, hx1⟩ := H1.out.form (by omega)
        obtain ⟨x2, o2, rfl, hx2⟩ := H2.out.form (by omega)
        obtain ⟨B, s, n, c, hg, g0, hL⟩ := H1.out.level hb k hlt
        obtain ⟨B', s', n', c', hg', q0, hL'⟩ := H2.out.level hb k hlt
        have HG : Hid (B1[k]? = some B) := hg
        have HG' : Hid (B2[k]? = some B') := hg'
        have hltI : (k : Int) < (n1 : Int) := by omega
        have y1 : x1 < wr.heap.size := Nat.lt_of_lt_of_le hx1 hb.size
        have y2 : x2 < wr.heap.size := Nat.lt_of_lt_of_le hx2 hb.size
        clear hg hg'
        obtain ⟨q, hq⟩ : ∃ q, decide (B = B') = q := ⟨_, rfl⟩
        have HQ : Hid (decide (B = B') = q) := hq
        clear hq
        cases q with
        | true =>
          go_wp2_with (go_at_fn 92; refine (areSameRuns_any lo1 lo2 _ _ _ _ _ _ B B' _ hL hL').mono ?_; rw [HQ.out]; rintro e w1 ⟨rfl, hb1⟩)
          go_roundw
          case rel => exact ⟨k + 1, by omega, by go_num, hb.trans ((hb1).mono hb.size), take_snoc_eq HG.out HG'.out (of_decide_eq_true HQ.out) HEQ.out⟩
          case measure => simp [intOf]; omega
        | false =>
          go_wp2_with (go_at_fn 92; refine (areSameRuns_any lo1 lo2 _ _ _ _ _ _ B B' _ hL hL').mono ?_; rw [HQ.out]; rintro e w1 ⟨rfl, hb1⟩)
          go_ret
          exact ⟨ret_bool (decide_eq_false (ne_of_at HG.out HG'.out (of_decide_eq_false HQ.out))).symm, hb.trans ((hb1).mono hb.size)⟩
      · go_wp2
        go_ret
        refine ⟨ret_bool (decide_eq_true ?_).symm, hb⟩
        have := HEQ.out
        rw [List.take_of_length_le (by rw [HN1.out]; omega), List.take_of_length_le (by rw [HN2.out]; omega)] at this
        exact this
  · go_enter Try.func91, Try.ntmps91
    go_wp2
    go_ret
    refine ⟨ret_bool (decide_eq_false ?_).symm, Below.refl _ _⟩
    intro e
    rw [e, HN2.out] at HN1
    exact hn HN1.out.symm

set_option maxHeartbeats 1600000 in
theorem intsEqual (lo1 lo2 : Nat) (a1 a2 : Option Addr) (n1 c1 n2 c2 : Nat) (B1 B2 : List Int) (w : World) (h1 : IntsIn lo1 w a1 n1 c1 B1) (h2 : IntsIn lo2 w a2 n2 c2 B2) :
    Calls Try.prog 156 #[.slice a1 n1 c1, .slice a2 n2 c2] w fun e w' => e = .returned (.bool (decide (B1 = B2))) ∧ Below w.heap.size w w' := by
  have HN1 : Hid (B1.length = n1) := h1.length
  have HN2 : Hid (B2.length = n2) := h2.length
  have hr1 := h1.room
  have hb1 := h1.big
  have hr2 := h2.room
  have hb2 := h2.big
  unfold maxLen at hb1 hb2
  have H1 : Hid (IntsIn lo1 w a1 n1 c1 B1) := h1
  have H2 : Hid (IntsIn lo2 w a2 n2 c2 B2) := h2

  clear h1 h2
  by_cases hn : n1 = n2
  · subst hn
    go_enter Try.func156, Try.ntmps156
    go_wp2
    go_loopw [13] (fun i wr => ∃ k : Nat, k ≤ n1 ∧ i = .int .i64 k ∧ Below w.heap.size w wr ∧ B1.take k = B2.take k) (fun i _ => n1 - (intOf i).toNat)
    case atStart => exact ⟨0, Nat.zero_le _, rfl, Below.refl _ _, rfl⟩
    case round =>
      obtain ⟨k, hk, rfl, hb, heq⟩ := hrel
      have HEQ : Hid (B1.take k = B2.take k) := heq
      clear heq
      by_cases hlt : k < n1
      · obtain ⟨x1, o1, rfl, hx1⟩ := H1.out.form (by omega)
        obtain ⟨x2, o2, rfl, hx2⟩ := H2.out.form (by omega)
        obtain ⟨q, hg, _, g0⟩ := H1.out.num hb k hlt
        obtain ⟨q', hg', _, q0⟩ := H2.out.num hb k hlt
        have HG : Hid (B1[k]? = some q) := hg
        have HG' : Hid (B2[k]? = some q') := hg'
        have hltI : (k : Int) < (n1 : Int) := by omega
        have y1 : x1 < wr.heap.size := Nat.lt_of_lt_of_le hx1 hb.size
        have y2 : x2 < wr.heap.size := Nat.lt_of_lt_of_le hx2 hb.size
        clear hg hg'
        by_cases hq : q = q'
        · subst hq
          go_wp2_with fail
          go_quiet (fail)
          go_wp2
          go_roundw
          case rel => exact ⟨k + 1, by omega, by go_num, below_drewN hb _, take_snoc_eq HG.out HG'.out rfl HEQ.out⟩
          case measure => simp [intOf]; omega
        · have HQ : Hid (¬ q = q') := hq
          have hd : (q == q') = false := by simpa using hq
          go_wp2_with fail
          go_quiet (fail)
          go_wp2
          go_ret
          exact ⟨ret_bool (decide_eq_false (ne_of_at HG.out HG'.out HQ.out)).symm, below_drewN hb _⟩
      · go_wp2
        go_ret
        refine ⟨ret_bool (decide_eq_true ?_).symm, hb⟩
        have := HEQ.out
        rw [List.take_of_length_le (by rw [HN1.out]; omega), List.take_of_length_le (by rw [HN2.out]; omega)] at this
        exact this
  · go_enter Try.func156, Try.ntmps156
    go_wp2
    go_ret
    refine ⟨ret_bool (decide_eq_false ?_).symm, Below.refl _ _⟩
    intro e
    rw [e, HN2.out] at HN1
    exact hn HN1.out.symm

set_option maxHeartbeats 1600000 in
theorem specInts (lo1 lo2 : Nat) (a1 a2 : Option Addr) (n1 c1 n2 c2 : Nat) (B1 B2 : List Int) (w : World) (h1 : IntsIn lo1 w a1 n1 c1 B1) (h2 : IntsIn lo2 w a2 n2 c2 B2) :
    Calls Try.prog 153 #[.slice a1 n1 c1, .slice a2 n2 c2] w fun e w' => e = .returned (.bool (decide (B1 = B2))) ∧ Below w.heap.size w w' := by
  have HN1 : Hid (B1.length = n1) := h1.length
  have HN2 : Hid (B2.length = n2) := h2.length
  have hr1 := h1.room
  have hb1 := h1.big
  have hr2 := h2.room
  have hb2 := h2.big
  unfold maxLen at hb1 hb2
  have H1 : Hid (IntsIn lo1 w a1 n1 c1 B1) := h1
  have H2 : Hid (IntsIn lo2 w a2 n2 c2 B2) := h2

  clear h1 h2
  by_cases hn : n1 = n2
  · subst hn
    go_enter Try.func153, Try.ntmps153
    go_wp2
    go_loopw [5] (fun i wr => ∃ k : Nat, k ≤ n1 ∧ i = .int .i64 k ∧ Below w.heap.size w wr ∧ B1.take k = B2.take k) (fun i _ => n1 - (intOf i).toNat)
    case atStart => exact ⟨0, Nat.zero_le _, rfl, Below.refl _ _, rfl⟩
    case round =>
      obtain ⟨k, hk, rfl, hb, heq⟩ := hrel
      have HEQ : Hid (B1.take k = B2.take k) := heq
      clear heq
      by_cases hlt : k < n1
      · obtain ⟨x1, o1, rfl, hx1⟩ := H1.out.form (by omega)
        obtain ⟨x2, o2, rfl, hx2⟩ := H2.out.form (by omega)
        obtain ⟨q, hg, _, g0⟩ := H1.out.num hb k hlt
        obtain ⟨q', hg', _, q0⟩ := H2.out.num hb k hlt
        have HG : Hid (B1[k]? = some q) := hg
        have HG' : Hid (B2[k]? = some q') := hg'
        have hltI : (k : Int) < (n1 : Int) := by omega
        have y1 : x1 < wr.heap.size := Nat.lt_of_lt_of_le hx1 hb.size
        have y2 : x2 < wr.heap.size := Nat.lt_of_lt_of_le hx2 hb.size
        clear hg hg'
        by_cases hq : q = q'
        · subst hq
          go_wp2_with fail
          go_quiet (fail)
          go_wp2
          go_roundw
          case rel => exact ⟨k + 1, by omega, by go_num, below_drewN hb _, take_snoc_eq HG.out HG'.out rfl HEQ.out⟩
          case measure => simp [intOf]; omega
        · have HQ : Hid (¬ q = q') := hq
          have hd : (q == q') = false := by simpa using hq
          go_wp2_with fail
          go_quiet (fail)
          go_wp2
          go_ret
          exact ⟨ret_bool (decide_eq_false (ne_of_at HG.out HG'.out HQ.out)).symm, below_drewN hb _⟩
      · go_wp2
        go_ret
        refine ⟨ret_bool (decide_eq_true ?_).symm, hb⟩
        have := HEQ.out
        rw [List.take_of_length_le (by rw [HN1.out]; omega), List.take_of_length_le (by rw [HN2.out]; omega)] at this
        exact this
  · go_enter Try.func153, Try.ntmps153
    go_wp2
    go_ret
    refine ⟨ret_bool (decide_eq_false ?_).symm, Below.refl _ _⟩
    intro e
    rw [e, HN2.out] at HN1
    exact hn HN1.out.symm

end Go.Proofs.Ytkeodfajgpbgaaa