/-
  What the document's BookSame and the program's (and the library's slices.EqualFunc on postings) answer at every two lists of postings, by walks of their Go text.
-/
import Derived.Test.YtmolncbeaefjpaaPosts
import Derived.Test.YtmolncbeaefjpaaSameI
import Derived.Test.YtmolncbeaefjpaaSameS
import Derived.Deep.RegionWith
import Derived.Shelf.GgClosure.Gives
namespace Go.Proofs.Ytmolncbeaefjpaa
open Go.RowKit

theorem take_eq_snocP {B1 B2 : List PostD} {k : Nat} {i1 i2 : Int} {L1 L2 : List LegD} (h1 : B1[k]? = some (i1, L1)) (h2 : B2[k]? = some (i2, L2)) (hs : sameB i1 L1 i2 L2 = true) (h : B1.take k = B2.take k) : B1.take (k + 1) = B2.take (k + 1) := by
  simp [sameB] at hs
  obtain ⟨rfl, rfl⟩ := hs
  rw [List.take_add_one, List.take_add_one, h1, h2, h]
theorem ne_of_same {B1 B2 : List PostD} {k : Nat} {i1 i2 : Int} {L1 L2 : List LegD} (h1 : B1[k]? = some (i1, L1)) (h2 : B2[k]? = some (i2, L2)) (hs : sameB i1 L1 i2 L2 = false) : ¬ B1 = B2 := by
  rintro rfl
  rw [h1] at h2
  cases h2
  simp [sameB] at hs

set_option maxHeartbeats 1000000 in
theorem specBookSame (a1 a2 : Option Addr) (n1 c1 n2 c2 : Nat) (B1 B2 : List PostD) (w : World) (h1 : PostsAt w a1 n1 c1 B1) (h2 : PostsAt w a2 n2 c2 B2) :
    Calls Try.prog 30 #[.slice a1 n1 c1, .slice a2 n2 c2] w fun e w' => e = .returned (.bool (decide (B1 = B2))) ∧ Below w.heap.size w w' := by
  have HN1 : Hid (B1.length = n1) := h1.length
  have HN2 : Hid (B2.length = n2) := h2.length
  have hr1 := h1.room
  have hb1 := h1.big
  have hr2 := h2.room
  have hb2 := h2.big
  unfold maxLen at hb1 hb2
  have H1 : Hid (PostsAt w a1 n1 c1 B1) := h1
  have H2 : Hid (PostsAt w a2 n2 c2 B2) := h2
  clear h1 h2
  by_cases hn : n1 = n2
  · subst hn
    go_enter Try.func30, Try.ntmps30
    go_wp2
    go_loopw [5] (fun i wr => ∃ k : Nat, k ≤ n1 ∧ i = .int .i64 k ∧ Below w.heap.size w wr ∧ B1.take k = B2.take k) (fun i _ => n1 - (intOf i).toNat)
    case atStart => exact ⟨0, Nat.zero_le _, rfl, Below.refl _ _, rfl⟩
    case round =>
      obtain ⟨k, hk, rfl, hb, heq⟩ := hrel
      have HEQ : Hid (B1.take k = B2.take k) := heq
      clear heq
      by_cases hlt : k < n1
      · obtain ⟨x1, o1, rfl, hx1⟩ := H1.out.form (by omega)
        obtain ⟨x2, o2, rfl, hx2⟩ := H2.out.form (by omega)
        obtain ⟨id, L, s, n, c, hg, _, g0, g1, hL⟩ := H1.out.post hb k hlt
        obtain ⟨id', L', s', n', c', hg', _, q0, q1, hL'⟩ := H2.out.post hb k hlt
        have HG : Hid (B1[k]? = some (id, L)) := hg
        have HG' : Hid (B2[k]? = some (id', L')) := hg'
        have hltI : (k : Int) < (n1 : Int) := by omega
        have y1 : x1 < wr.heap.size := Nat.lt_of_lt_of_le hx1 hb.size
        have y2 : x2 < wr.heap.size := Nat.lt_of_lt_of_le hx2 hb.size
        have lk := hL.keep ((Below.refl _ wr).drew)
        have lk' := hL'.keep ((Below.refl _ wr).drew)
        clear hg hg' hL hL'
        obtain ⟨q, hq⟩ : ∃ q, sameB id L id' L' = q := ⟨_, rfl⟩
        have HQ : Hid (sameB id L id' L' = q) := hq
        clear hq
        cases q with
        | true =>
          go_wp2_with fail
          go_region_with (go_at_call 24; refine (specSame _ _ _ _ _ _ _ _ L L' _ lk lk').mono ?_; rw [HQ.out]; rintro e w1 ⟨rfl, hb1⟩)
          all_goals
            go_wp2
            go_roundw
            case rel => exact ⟨k + 1, by omega, by go_num, hb.drew.trans (hb1.mono hb.size), take_eq_snocP HG.out HG'.out HQ.out HEQ.out⟩
            case measure => simp [intOf]; omega
        | false =>
          go_wp2_with fail
          go_region_with (go_at_call 24; refine (specSame _ _ _ _ _ _ _ _ L L' _ lk lk').mono ?_; rw [HQ.out]; rintro e w1 ⟨rfl, hb1⟩)
          all_goals
            go_wp2
            go_ret
            exact ⟨ret_bool (decide_eq_false (ne_of_same HG.out HG'.out HQ.out)).symm, hb.drew.trans (hb1.mono hb.size)⟩
      · go_wp2
        go_ret
        refine ⟨ret_bool (decide_eq_true ?_).symm, hb⟩
        have := HEQ.out
        rw [List.take_of_length_le (by rw [HN1.out]; omega), List.take_of_length_le (by rw [HN2.out]; omega)] at this
        exact this
  · go_enter Try.func30, Try.ntmps30
    go_wp2
    go_ret
    refine ⟨ret_bool (decide_eq_false ?_).symm, Below.refl _ _⟩
    intro e
    rw [e, HN2.out] at HN1
    exact hn HN1.out.symm

set_option maxHeartbeats 1000000 in
theorem slicesEqualFunc (a1 a2 : Option Addr) (n1 c1 n2 c2 : Nat) (B1 B2 : List PostD) (w : World) (h1 : PostsAt w a1 n1 c1 B1) (h2 : PostsAt w a2 n2 c2 B2) :
    Calls Try.prog 58 #[.slice a1 n1 c1, .slice a2 n2 c2, .func (.func 23) #[] #[]] w fun e w' => e = .returned (.bool (decide (B1 = B2))) ∧ Below w.heap.size w w' := by
  have HN1 : Hid (B1.length = n1) := h1.length
  have HN2 : Hid (B2.length = n2) := h2.length
  have hr1 := h1.room
  have hb1 := h1.big
  have hr2 := h2.room
  have hb2 := h2.big
  unfold maxLen at hb1 hb2
  have H1 : Hid (PostsAt w a1 n1 c1 B1) := h1
  have H2 : Hid (PostsAt w a2 n2 c2 B2) := h2
  have eg : ∀ args w, (callFunc 23 args).run Try.prog w = .ok (.enter 23 args) w := enters_of Try.func23 (by kernel_rfl) rfl
  clear h1 h2
  by_cases hn : n1 = n2
  · subst hn
    go_enter Try.func58, Try.ntmps58
    go_wp2
    go_loopw [17] (fun i wr => ∃ k : Nat, k ≤ n1 ∧ i = .int .i64 k ∧ Below w.heap.size w wr ∧ B1.take k = B2.take k) (fun i _ => n1 - (intOf i).toNat)
    case atStart => exact ⟨0, Nat.zero_le _, rfl, Below.refl _ _, rfl⟩
    case round =>
      obtain ⟨k, hk, rfl, hb, heq⟩ := hrel
      have HEQ : Hid (B1.take k = B2.take k) := heq
      clear heq
      by_cases hlt : k < n1
      · obtain ⟨x1, o1, rfl, hx1⟩ := H1.out.form (by omega)
        obtain ⟨x2, o2, rfl, hx2⟩ := H2.out.form (by omega)
        obtain ⟨id, L, s, n, c, hg, _, g0, g1, hL⟩ := H1.out.post hb k hlt
        obtain ⟨id', L', s', n', c', hg', _, q0, q1, hL'⟩ := H2.out.post hb k hlt
        have HG : Hid (B1[k]? = some (id, L)) := hg
        have HG' : Hid (B2[k]? = some (id', L')) := hg'
        have hltI : (k : Int) < (n1 : Int) := by omega
        have y1 : x1 < wr.heap.size := Nat.lt_of_lt_of_le hx1 hb.size
        have y2 : x2 < wr.heap.size := Nat.lt_of_lt_of_le hx2 hb.size
        clear hg hg'
        have k2 : Below wr.heap.size wr ((wr.alloc (.cells #[.int .i64 id, .slice s n c] 25)).alloc (.cells #[.int .i64 id', .slice s' n' c'] 25)) := ((Below.refl _ _).alloc (Nat.le_refl _) _).alloc (by simp) _
        obtain ⟨q, hq⟩ : ∃ q, sameB id L id' L' = q := ⟨_, rfl⟩
        have HQ : Hid (sameB id L id' L' = q) := hq
        clear hq
        cases q with
        | true =>
          go_wp2_with (go_at_fn 23; refine (implSame _ _ _ _ _ _ _ _ L L' _ (hL.keep k2) (hL'.keep k2)).mono ?_; rw [HQ.out]; rintro e w1 ⟨rfl, hb1⟩)
          go_roundw
          case rel => exact ⟨k + 1, by omega, by go_num, hb.trans ((k2.trans (hb1.mono k2.size)).mono hb.size), take_eq_snocP HG.out HG'.out HQ.out HEQ.out⟩
          case measure => simp [intOf]; omega
        | false =>
          go_wp2_with (go_at_fn 23; refine (implSame _ _ _ _ _ _ _ _ L L' _ (hL.keep k2) (hL'.keep k2)).mono ?_; rw [HQ.out]; rintro e w1 ⟨rfl, hb1⟩)
          go_ret
          exact ⟨ret_bool (decide_eq_false (ne_of_same HG.out HG'.out HQ.out)).symm, hb.trans ((k2.trans (hb1.mono k2.size)).mono hb.size)⟩
      · go_wp2
        go_ret
        refine ⟨ret_bool (decide_eq_true ?_).symm, hb⟩
        have := HEQ.out
        rw [List.take_of_length_le (by rw [HN1.out]; omega), List.take_of_length_le (by rw [HN2.out]; omega)] at this
        exact this
  · go_enter Try.func58, Try.ntmps58
    go_wp2
    go_ret
    refine ⟨ret_bool (decide_eq_false ?_).symm, Below.refl _ _⟩
    intro e
    rw [e, HN2.out] at HN1
    exact hn HN1.out.symm

set_option maxHeartbeats 400000 in
theorem implBookSame (a1 a2 : Option Addr) (n1 c1 n2 c2 : Nat) (B1 B2 : List PostD) (w : World) (h1 : PostsAt w a1 n1 c1 B1) (h2 : PostsAt w a2 n2 c2 B2) :
    Calls Try.prog 32 #[.slice a1 n1 c1, .slice a2 n2 c2] w fun e w' => e = .returned (.bool (decide (B1 = B2))) ∧ Below w.heap.size w w' := by
  go_enter Try.func32, Try.ntmps32
  go_wp2_with (go_at_call 58; refine (slicesEqualFunc _ _ _ _ _ _ B1 B2 _ h1 h2).mono ?_; rintro e w1 ⟨rfl, hb1⟩)
  go_ret
  exact ⟨rfl, hb1⟩
end Go.Proofs.Ytmolncbeaefjpaa
