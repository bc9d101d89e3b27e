/-
  What the document's PostSame answers at every two postings, by a walk of its Go text.
-/
import Derived.Test.YtkeodfajgpbgaaaSameI
namespace Go.Proofs.Ytkeodfajgpbgaaa
open Go.RowKit

set_option maxHeartbeats 1000000 in
theorem specSame (i1 i2 : Int) (a1 a2 : Option Addr) (n1 c1 n2 c2 : Nat) (L1 L2 : List LegD) (w : World) (h1 : LegsAt w a1 n1 c1 L1) (h2 : LegsAt w a2 n2 c2 L2) :
    Calls Try.prog 39 #[.agg #[.int .i64 i1, .slice a1 n1 c1], .agg #[.int .i64 i2, .slice a2 n2 c2]] w fun e w' => e = .returned (.bool (sameB i1 L1 i2 L2)) ∧ Below w.heap.size w w' := by
  have hB : Below w.heap.size w ((w.alloc (.cells #[.int .i64 i1, .slice a1 n1 c1] 65)).alloc (.cells #[.int .i64 i2, .slice a2 n2 c2] 65)) := ((Below.refl _ _).alloc (Nat.le_refl _) _).alloc (by simp) _
  have HN1 : Hid (L1.length = n1) := h1.length
  have HN2 : Hid (L2.length = n2) := h2.length
  have hr1 := h1.room
  have hb1 := h1.big
  have hr2 := h2.room
  have hb2 := h2.big
  unfold maxLen at hb1 hb2
  have H1 : Hid (LegsAt w a1 n1 c1 L1) := h1
  have H2 : Hid (LegsAt w a2 n2 c2 L2) := h2
  clear h1 h2
  by_cases hi : i1 = i2
  · subst hi
    by_cases hn : n1 = n2
    · subst hn
      go_enter Try.func39, Try.ntmps39
      go_wp2
      go_loopw [5] (fun i wr => ∃ k : Nat, k ≤ n1 ∧ i = .int .i64 k ∧ Below (w.heap.size + 1 + 1) ((w.alloc (.cells #[.int .i64 i1, .slice a1 n1 c1] 65)).alloc (.cells #[.int .i64 i1, .slice a2 n1 c2] 65)) wr ∧ L1.take k = L2.take k) (fun i _ => n1 - (intOf i).toNat)
      case atStart => exact ⟨0, Nat.zero_le _, rfl, Below.refl _ _, rfl⟩
      case round =>
        obtain ⟨k, hk, rfl, hb0, heq⟩ := hrel
        have HEQ : Hid (L1.take k = L2.take k) := heq
        clear heq
        have hb : Below w.heap.size w wr := hB.trans (hb0.mono (by omega))
        have e1 : wr.cell? ⟨w.heap.size, 1, none⟩ = some (.slice a1 n1 c1) := (hb0.cell (p := ⟨w.heap.size, 1, none⟩) (by simp; omega)).trans (by simp)
        have e2 : wr.cell? ⟨w.heap.size + 1, 1, none⟩ = some (.slice a2 n1 c2) := (hb0.cell (p := ⟨w.heap.size + 1, 1, none⟩) (by simp)).trans (by simp)
        by_cases hlt : k < n1
        · obtain ⟨x1, o1, rfl, hx1⟩ := H1.out.form (by omega)
          obtain ⟨x2, o2, rfl, hx2⟩ := H2.out.form (by omega)
          obtain ⟨s, c, n, hg, _, g0, g1, g2⟩ := H1.out.leg hb hx1 k hlt
          obtain ⟨s', c', n', hg', _, q0, q1, q2⟩ := H2.out.leg hb hx2 k hlt
          have HG : Hid (L1[k]? = some (s, c, n)) := hg
          have HG' : Hid (L2[k]? = some (s', c', n')) := hg'
          have hltI : (k : Int) < (n1 : Int) := by omega
          clear hg hg'
          by_cases hl : (s, c, n) = (s', c', n')
          · cases hl
            have hne := neq_leg_same s c n
            go_wp2_with fail
            go_quiet (fail)
            go_wp2
            go_roundw
            case rel => exact ⟨k + 1, by omega, by go_num, below_drewN hb0 _, take_eq_snoc HG.out HG'.out HEQ.out⟩
            case measure => simp [intOf]; omega
          · have hne := fun w => neq_leg_diff s c n s' c' n' w hl
            have HD : Hid (¬ (s, c, n) = (s', c', n')) := hl
            clear hl
            go_wp2_with fail
            go_quiet (fail)
            go_wp2
            go_ret
            refine ⟨ret_bool ?_, below_drewN hb _⟩
            have : ¬ L1 = L2 := by
              intro e
              rw [e, HG'.out] at HG
              exact HD.out (by simpa [Hid] using HG.symm)
            simp [sameB, this]
        · go_wp2
          go_ret
          refine ⟨ret_bool ?_, hb⟩
          have := HEQ.out
          rw [List.take_of_length_le (by rw [HN1.out]; omega), List.take_of_length_le (by rw [HN2.out]; omega)] at this
          simp [sameB, this]
    · go_enter Try.func39, Try.ntmps39
      go_wp2
      go_ret
      refine ⟨ret_bool ?_, hB⟩
      have : ¬ L1 = L2 := by
        intro e
        rw [e, HN2.out] at HN1
        exact hn HN1.out.symm
      simp [sameB, this]
  · go_enter Try.func39, Try.ntmps39
    go_wp2
    go_ret
    exact ⟨ret_bool (by simp [sameB, hi]), hB⟩

end Go.Proofs.Ytkeodfajgpbgaaa
