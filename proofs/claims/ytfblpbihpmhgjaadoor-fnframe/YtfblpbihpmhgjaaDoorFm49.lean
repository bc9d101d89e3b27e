/-
  When two entries are one, as the model's comparison of structs tells it; lists that agree so far. No function of the program is walked here.
  That two lists of entries are one, by a walk of the laws' Go text.
-/
import Derived.Test.YtfblpbihpmhgjaaDoorFm21
import Derived.Test.YtfblpbihpmhgjaaDoorFm20
import Derived.Deep.QuietTactic
import Derived.Deep.LoopGhost
import Derived.BigQuiet
namespace Go.Proofs.YtfblpbihpmhgjaaDoor
open Go.RowKit

theorem bytes_ne {s s' : ByteArray} (h : ¬ s = s') : ¬ s.toList = s'.toList := fun e => h (by
  rw [ByteArray.toList_eq, ByteArray.toList_eq] at e
  obtain ⟨⟨x⟩⟩ := s
  obtain ⟨⟨y⟩⟩ := s'
  simpa using e)
set_option maxRecDepth 100000 in
theorem neq_ent_same (s t : ByteArray) (q d n : Int) (w : World) : (binOp .neq 85 (.agg #[.string s, .int .i64 q, .int .i64 d, .string t, .int .i64 n]) (.agg #[.string s, .int .i64 q, .int .i64 d, .string t, .int .i64 n])).run Tryd.prog w = .ok (.bool false) w := by
  have hs := run_equalIn_struct (P := Tryd.prog) w 9999 85 #[.string s, .int .i64 q, .int .i64 d, .string t, .int .i64 n] #[.string s, .int .i64 q, .int .i64 d, .string t, .int .i64 n] (by kernel_rfl) (by kernel_rfl)
  simp [binOp, Op.equal, Op.maxDepth, hs, go_sem, Tryd.underlying85]
set_option maxRecDepth 100000 in
theorem neq_ent_diff (s t : ByteArray) (q d n : Int) (s' t' : ByteArray) (q' d' n' : Int) (w : World) (h : ¬ ((s, q, d, t, n) : EntD) = (s', q', d', t', n')) : (binOp .neq 85 (.agg #[.string s, .int .i64 q, .int .i64 d, .string t, .int .i64 n]) (.agg #[.string s', .int .i64 q', .int .i64 d', .string t', .int .i64 n'])).run Tryd.prog w = .ok (.bool true) w := by
  have hs := run_equalIn_struct (P := Tryd.prog) w 9999 85 #[.string s, .int .i64 q, .int .i64 d, .string t, .int .i64 n] #[.string s', .int .i64 q', .int .i64 d', .string t', .int .i64 n'] (by kernel_rfl) (by kernel_rfl)
  by_cases h1 : s = s'
  · subst h1
    by_cases h2 : q = q'
    · subst h2
      by_cases h3 : d = d'
      · subst h3
        by_cases h4 : t = t'
        · subst h4
          have h5 : ¬ n = n' := fun e => h (by rw [e])
          simp [binOp, Op.equal, Op.maxDepth, hs, go_sem, Tryd.underlying85, h5]
        · have h4' := bytes_ne h4
          simp [binOp, Op.equal, Op.maxDepth, hs, go_sem, Tryd.underlying85, h4']
      · simp [binOp, Op.equal, Op.maxDepth, hs, go_sem, Tryd.underlying85, h3]
    · simp [binOp, Op.equal, Op.maxDepth, hs, go_sem, Tryd.underlying85, h2]
  · have h4 := bytes_ne h1
    simp [binOp, Op.equal, Op.maxDepth, hs, go_sem, Tryd.underlying85, h4]

set_option maxRecDepth 100000 in
theorem eql_ent_same (s t : ByteArray) (q d n : Int) (w : World) : (binOp .eql 85 (.agg #[.string s, .int .i64 q, .int .i64 d, .string t, .int .i64 n]) (.agg #[.string s, .int .i64 q, .int .i64 d, .string t, .int .i64 n])).run Tryd.prog w = .ok (.bool true) w := by
  have hs := run_equalIn_struct (P := Tryd.prog) w 9999 85 #[.string s, .int .i64 q, .int .i64 d, .string t, .int .i64 n] #[.string s, .int .i64 q, .int .i64 d, .string t, .int .i64 n] (by kernel_rfl) (by kernel_rfl)
  simp [binOp, Op.equal, Op.maxDepth, hs, go_sem, Tryd.underlying85]
set_option maxRecDepth 100000 in
theorem eql_ent_diff (s t : ByteArray) (q d n : Int) (s' t' : ByteArray) (q' d' n' : Int) (w : World) (h : ¬ ((s, q, d, t, n) : EntD) = (s', q', d', t', n')) : (binOp .eql 85 (.agg #[.string s, .int .i64 q, .int .i64 d, .string t, .int .i64 n]) (.agg #[.string s', .int .i64 q', .int .i64 d', .string t', .int .i64 n'])).run Tryd.prog w = .ok (.bool false) w := by
  have hs := run_equalIn_struct (P := Tryd.prog) w 9999 85 #[.string s, .int .i64 q, .int .i64 d, .string t, .int .i64 n] #[.string s', .int .i64 q', .int .i64 d', .string t', .int .i64 n'] (by kernel_rfl) (by kernel_rfl)
  by_cases h1 : s = s'
  · subst h1
    by_cases h2 : q = q'
    · subst h2
      by_cases h3 : d = d'
      · subst h3
        by_cases h4 : t = t'
        · subst h4
          have h5 : ¬ n = n' := fun e => h (by rw [e])
          simp [binOp, Op.equal, Op.maxDepth, hs, go_sem, Tryd.underlying85, h5]
        · have h4' := bytes_ne h4
          simp [binOp, Op.equal, Op.maxDepth, hs, go_sem, Tryd.underlying85, h4']
      · simp [binOp, Op.equal, Op.maxDepth, hs, go_sem, Tryd.underlying85, h3]
    · simp [binOp, Op.equal, Op.maxDepth, hs, go_sem, Tryd.underlying85, h2]
  · have h4 := bytes_ne h1
    simp [binOp, Op.equal, Op.maxDepth, hs, go_sem, Tryd.underlying85, h4]
theorem ents_eq_snoc {L1 L2 : List EntD} {k : Nat} {l : EntD} (h1 : L1[k]? = some l) (h2 : L2[k]? = some l) (h : L1.take k = L2.take k) : L1.take (k + 1) = L2.take (k + 1) := by
  rw [List.take_add_one, List.take_add_one, h1, h2, h]

end Go.Proofs.YtfblpbihpmhgjaaDoor

namespace Go.Proofs.YtfblpbihpmhgjaaDoor
open Go.RowKit

set_option maxHeartbeats 800000 in
theorem wpEnts_any (a1 a2 : Option Addr) (n1 c1 n2 c2 : Nat) (L1 L2 : List EntD) (w : World) (h1 : EntsAt w a1 n1 c1 L1) (h2 : EntsAt w a2 n2 c2 L2) :
    Calls Tryd.prog 36 #[.slice a1 n1 c1, .slice a2 n2 c2] w fun e w' => e = .returned (.bool (decide (L1 = L2))) ∧ Below w.heap.size w w' := by
  have HN1 : Hid (L1.length = n1) := h1.length
  have HN2 : Hid (L2.length = n2) := h2.length
  have hr1 := h1.room
  have hb1 := h1.big
  have hr2 := h2.room
  have hb2 := h2.big
  unfold maxLen at hb1 hb2
  have H1 : Hid (EntsAt w a1 n1 c1 L1) := h1
  have H2 : Hid (EntsAt w a2 n2 c2 L2) := h2
  clear h1 h2
  by_cases hn : n1 = n2
  · subst hn
    go_enter Tryd.func36, Tryd.ntmps36
    go_wp2
    go_loopw [5] (fun i wr => ∃ k : Nat, k ≤ n1 ∧ i = .int .i64 k ∧ Below w.heap.size w wr ∧ L1.take k = L2.take k) (fun i _ => n1 - (intOf i).toNat)
    case atStart => exact ⟨0, Nat.zero_le _, rfl, Below.refl _ _, rfl⟩
    case round =>
      obtain ⟨k, hk, rfl, hb, heq⟩ := hrel
      have HEQ : Hid (L1.take k = L2.take k) := heq
      clear heq
      by_cases hlt : k < n1
      · obtain ⟨x1, o1, rfl, hx1⟩ := H1.out.form (by omega)
        obtain ⟨x2, o2, rfl, hx2⟩ := H2.out.form (by omega)
        obtain ⟨s, q, d, t, n, hg, _, g0, g1, g2, g3, g4⟩ := H1.out.ent hb hx1 k hlt
        obtain ⟨s', q', d', t', n', hg', _, p0, p1, p2, p3, p4⟩ := H2.out.ent hb hx2 k hlt
        have HG : Hid (L1[k]? = some (s, q, d, t, n)) := hg
        have HG' : Hid (L2[k]? = some (s', q', d', t', n')) := hg'
        have hltI : (k : Int) < (n1 : Int) := by omega
        clear hg hg'
        by_cases hl : (s, q, d, t, n) = (s', q', d', t', n')
        · cases hl
          have hne := neq_ent_same s t q d n
          go_wp2_with fail
          go_quiet (fail)
          go_wp2
          go_roundw
          case rel => exact ⟨k + 1, by omega, by go_num, below_drewN hb _, ents_eq_snoc HG.out HG'.out HEQ.out⟩
          case measure => simp [intOf]; omega
        · have hne := fun w => neq_ent_diff s t q d n s' t' q' d' n' w hl
          have HD : Hid (¬ (s, q, d, t, n) = (s', q', d', t', n')) := hl
          clear hl
          go_wp2_with fail
          go_quiet (fail)
          go_wp2
          go_ret
          refine ⟨ret_bool (decide_eq_false ?_).symm, below_drewN hb _⟩
          intro e
          rw [e, HG'.out] at HG
          exact HD.out (by simpa [Hid] using HG.symm)
      · go_wp2
        go_ret
        refine ⟨ret_bool (decide_eq_true ?_).symm, hb⟩
        have := HEQ.out
        rw [List.take_of_length_le (by rw [HN1.out]; omega), List.take_of_length_le (by rw [HN2.out]; omega)] at this
        exact this
  · go_enter Tryd.func36, Tryd.ntmps36
    go_wp2
    go_ret
    refine ⟨ret_bool (decide_eq_false ?_).symm, Below.refl _ _⟩
    intro e
    rw [e, HN2.out] at HN1
    exact hn HN1.out.symm

end Go.Proofs.YtfblpbihpmhgjaaDoor
