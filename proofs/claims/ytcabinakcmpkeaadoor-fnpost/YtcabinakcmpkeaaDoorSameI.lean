/-
  What the program's PostSame (and the library's slices.Equal on legs) answers at every two postings, by walks of their Go text.
-/
import Derived.Test.YtcabinakcmpkeaaDoorLegs
import Derived.Deep.QuietTactic
import Derived.BigQuiet
namespace Go.Proofs.YtcabinakcmpkeaaDoor
open Go.RowKit

theorem neq_leg_same (s : ByteArray) (c n : Int) (w : World) : (binOp .neq 58 (.agg #[.string s, .int .i64 c, .int .i64 n]) (.agg #[.string s, .int .i64 c, .int .i64 n])).run Tryd.prog w = .ok (.bool false) w := by
  have h9 := Tryd.underlying9
  have h3 := Tryd.underlying3
  have hs := run_equalIn_struct (P := Tryd.prog) w 9999 58 #[.string s, .int .i64 c, .int .i64 n] #[.string s, .int .i64 c, .int .i64 n] (by kernel_rfl) (by kernel_rfl)
  simp [binOp, Op.equal, Op.maxDepth, hs, go_sem, Tryd.underlying58]

theorem neq_leg_diff (s : ByteArray) (c n : Int) (s' : ByteArray) (c' n' : Int) (w : World) (h : ¬ (s, c, n) = (s', c', n')) : (binOp .neq 58 (.agg #[.string s, .int .i64 c, .int .i64 n]) (.agg #[.string s', .int .i64 c', .int .i64 n'])).run Tryd.prog w = .ok (.bool true) w := by
  have hs := run_equalIn_struct (P := Tryd.prog) w 9999 58 #[.string s, .int .i64 c, .int .i64 n] #[.string s', .int .i64 c', .int .i64 n'] (by kernel_rfl) (by kernel_rfl)
  by_cases h1 : s = s'
  · subst h1
    by_cases h2 : c = c'
    · subst h2
      have h3 : ¬ n = n' := fun e => h (by rw [e])
      simp [binOp, Op.equal, Op.maxDepth, hs, go_sem, Tryd.underlying58, h3]
    · simp [binOp, Op.equal, Op.maxDepth, hs, go_sem, Tryd.underlying58, h2]
  · have h4 : ¬ s.toList = s'.toList := fun e => h1 (by
      rw [ByteArray.toList_eq, ByteArray.toList_eq] at e
      obtain ⟨⟨x⟩⟩ := s
      obtain ⟨⟨y⟩⟩ := s'
      simpa using e)
    simp [binOp, Op.equal, Op.maxDepth, hs, go_sem, Tryd.underlying58, h4]

theorem take_eq_snoc {L1 L2 : List LegD} {k : Nat} {l : LegD} (h1 : L1[k]? = some l) (h2 : L2[k]? = some l) (h : L1.take k = L2.take k) : L1.take (k + 1) = L2.take (k + 1) := by
  rw [List.take_add_one, List.take_add_one, h1, h2, h]

set_option maxHeartbeats 800000 in
theorem slicesEqual (a1 a2 : Option Addr) (n1 c1 n2 c2 : Nat) (L1 L2 : List LegD) (w : World) (h1 : LegsAt w a1 n1 c1 L1) (h2 : LegsAt w a2 n2 c2 L2) :
    Calls Tryd.prog 64 #[.slice a1 n1 c1, .slice a2 n2 c2] w fun e w' => e = .returned (.bool (decide (L1 = L2))) ∧ Below w.heap.size w w' := by
  have HN1 : Hid (L1.length = n1) := h1.length
  have HN2 : Hid (L2.length = n2) := h2.length
  have hr1 := h1.room
  have hb1 := h1.big
  have hr2 := h2.room
  have hb2 := h2.big
  unfold maxLen at hb1 hb2
  have H1 : Hid (LegsAt w a1 n1 c1 L1) := h1
  have H2 : Hid (LegsAt w a2 n2 c2 L2) := h2
  clear h1 h2
  by_cases hn : n1 = n2
  · subst hn
    go_enter Tryd.func64, Tryd.ntmps64
    go_wp2
    go_loopw [13] (fun i wr => ∃ k : Nat, k ≤ n1 ∧ i = .int .i64 k ∧ Below w.heap.size w wr ∧ L1.take k = L2.take k) (fun i _ => n1 - (intOf i).toNat)
    case atStart => exact ⟨0, Nat.zero_le _, rfl, Below.refl _ _, rfl⟩
    case round =>
      obtain ⟨k, hk, rfl, hb, heq⟩ := hrel
      have HEQ : Hid (L1.take k = L2.take k) := heq
      clear heq
      by_cases hlt : k < n1
      · obtain ⟨x1, o1, rfl, hx1⟩ := H1.out.form (by omega)
        obtain ⟨x2, o2, rfl, hx2⟩ := H2.out.form (by omega)
        obtain ⟨s, c, n, hg, _, g0, g1, g2⟩ := H1.out.leg hb hx1 k hlt
        obtain ⟨s', c', n', hg', _, q0, q1, q2⟩ := H2.out.leg hb hx2 k hlt
        have HG : Hid (L1[k]? = some (s, c, n)) := hg
        have HG' : Hid (L2[k]? = some (s', c', n')) := hg'
        have hltI : (k : Int) < (n1 : Int) := by omega
        clear hg hg'
        by_cases hl : (s, c, n) = (s', c', n')
        · cases hl
          have hne := neq_leg_same s c n
          go_wp2_with fail
          go_quiet (fail)
          go_wp2
          go_roundw
          case rel => exact ⟨k + 1, by omega, by go_num, below_drewN hb _, take_eq_snoc HG.out HG'.out HEQ.out⟩
          case measure => simp [intOf]; omega
        · have hne := fun w => neq_leg_diff s c n s' c' n' w hl
          have HD : Hid (¬ (s, c, n) = (s', c', n')) := hl
          clear hl
          go_wp2_with fail
          go_quiet (fail)
          go_wp2
          go_ret
          refine ⟨ret_bool (decide_eq_false ?_).symm, below_drewN hb _⟩
          intro e
          rw [e, HG'.out] at HG
          exact HD.out (by simpa [Hid] using HG.symm)
      · go_wp2
        go_ret
        refine ⟨ret_bool (decide_eq_true ?_).symm, hb⟩
        have := HEQ.out
        rw [List.take_of_length_le (by rw [HN1.out]; omega), List.take_of_length_le (by rw [HN2.out]; omega)] at this
        exact this
  · go_enter Tryd.func64, Tryd.ntmps64
    go_wp2
    go_ret
    refine ⟨ret_bool (decide_eq_false ?_).symm, Below.refl _ _⟩
    intro e
    rw [e, HN2.out] at HN1
    exact hn HN1.out.symm

/-- Two postings are one. -/
def sameB (i1 : Int) (L1 : List LegD) (i2 : Int) (L2 : List LegD) : Bool := decide (i1 = i2) && decide (L1 = L2)

set_option maxHeartbeats 400000 in
theorem implSame (i1 i2 : Int) (a1 a2 : Option Addr) (n1 c1 n2 c2 : Nat) (L1 L2 : List LegD) (w : World) (h1 : LegsAt w a1 n1 c1 L1) (h2 : LegsAt w a2 n2 c2 L2) :
    Calls Tryd.prog 31 #[.agg #[.int .i64 i1, .slice a1 n1 c1], .agg #[.int .i64 i2, .slice a2 n2 c2]] w fun e w' => e = .returned (.bool (sameB i1 L1 i2 L2)) ∧ Below w.heap.size w w' := by
  have hB : Below w.heap.size w ((w.alloc (.cells #[.int .i64 i1, .slice a1 n1 c1] 29)).alloc (.cells #[.int .i64 i2, .slice a2 n2 c2] 29)) := ((Below.refl _ _).alloc (Nat.le_refl _) _).alloc (by simp) _
  by_cases hi : i1 = i2
  · subst hi
    go_enter Tryd.func31, Tryd.ntmps31
    go_wp2_with (go_at_call 64; refine (slicesEqual _ _ _ _ _ _ L1 L2 _ (h1.keep hB) (h2.keep hB)).mono ?_; rintro e w1 ⟨rfl, hb1⟩)
    go_ret
    exact ⟨ret_bool (by simp [sameB]), hB.trans (hb1.mono (by simp; omega))⟩
  · have hd : (i1 == i2) = false := by simpa using hi
    clear h1 h2
    go_enter Tryd.func31, Tryd.ntmps31
    go_wp2
    go_ret
    exact ⟨ret_bool (by simp [sameB, hi]), hB⟩

end Go.Proofs.YtcabinakcmpkeaaDoor
