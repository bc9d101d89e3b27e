/-
  When two entries are one, as the model's comparison of structs tells it; lists that agree so far. No function of the program is walked here.
  That two lists of entries are one, by a walk of the laws' Go text.
  How many entries are left, and that the oldest of a key is a put where nothing stands beneath. Plain.
  The walk of the law FnSquashFew: it answers true at all bytes: few entries are left, and where nothing stands beneath the oldest of a key is a put.
-/
import Derived.Test.YthhiahjafhkbbaaEnts
import Derived.Test.YthhiahjafhkbbaaEntI
import Derived.Deep.QuietTactic
import Derived.Deep.LoopGhost
import Derived.BigQuiet
import Derived.Test.YthhiahjafhkbbaaSqU
import Derived.Test.YthhiahjafhkbbaaSqX
import Derived.Test.YthhiahjafhkbbaaSqG
import Derived.Test.YthhiahjafhkbbaaDrawSq
namespace Go.Proofs.Ythhiahjafhkbbaa
open Go.RowKit

theorem bytes_ne {s s' : ByteArray} (h : ¬ s = s') : ¬ s.toList = s'.toList := fun e => h (by
  rw [ByteArray.toList_eq, ByteArray.toList_eq] at e
  obtain ⟨⟨x⟩⟩ := s
  obtain ⟨⟨y⟩⟩ := s'
  simpa using e)
set_option maxRecDepth 100000 in
theorem neq_ent_same (s t : ByteArray) (q d n : Int) (w : World) : (binOp .neq 54 (.agg #[.string s, .int .i64 q, .int .i64 d, .string t, .int .i64 n]) (.agg #[.string s, .int .i64 q, .int .i64 d, .string t, .int .i64 n])).run Try.prog w = .ok (.bool false) w := by
  have hs := run_equalIn_struct (P := Try.prog) w 9999 54 #[.string s, .int .i64 q, .int .i64 d, .string t, .int .i64 n] #[.string s, .int .i64 q, .int .i64 d, .string t, .int .i64 n] (by kernel_rfl) (by kernel_rfl)
  simp [binOp, Op.equal, Op.maxDepth, hs, go_sem, Try.underlying54]
set_option maxRecDepth 100000 in
theorem neq_ent_diff (s t : ByteArray) (q d n : Int) (s' t' : ByteArray) (q' d' n' : Int) (w : World) (h : ¬ ((s, q, d, t, n) : EntD) = (s', q', d', t', n')) : (binOp .neq 54 (.agg #[.string s, .int .i64 q, .int .i64 d, .string t, .int .i64 n]) (.agg #[.string s', .int .i64 q', .int .i64 d', .string t', .int .i64 n'])).run Try.prog w = .ok (.bool true) w := by
  have hs := run_equalIn_struct (P := Try.prog) w 9999 54 #[.string s, .int .i64 q, .int .i64 d, .string t, .int .i64 n] #[.string s', .int .i64 q', .int .i64 d', .string t', .int .i64 n'] (by kernel_rfl) (by kernel_rfl)
  by_cases h1 : s = s'
  · subst h1
    by_cases h2 : q = q'
    · subst h2
      by_cases h3 : d = d'
      · subst h3
        by_cases h4 : t = t'
        · subst h4
          have h5 : ¬ n = n' := fun e => h (by rw [e])
          simp [binOp, Op.equal, Op.maxDepth, hs, go_sem, Try.underlying54, h5]
        · have h4' := bytes_ne h4
          simp [binOp, Op.equal, Op.maxDepth, hs, go_sem, Try.underlying54, h4']
      · simp [binOp, Op.equal, Op.maxDepth, hs, go_sem, Try.underlying54, h3]
    · simp [binOp, Op.equal, Op.maxDepth, hs, go_sem, Try.underlying54, h2]
  · have h4 := bytes_ne h1
    simp [binOp, Op.equal, Op.maxDepth, hs, go_sem, Try.underlying54, h4]

theorem ents_eq_snoc {L1 L2 : List EntD} {k : Nat} {l : EntD} (h1 : L1[k]? = some l) (h2 : L2[k]? = some l) (h : L1.take k = L2.take k) : L1.take (k + 1) = L2.take (k + 1) := by
  rw [List.take_add_one, List.take_add_one, h1, h2, h]

end Go.Proofs.Ythhiahjafhkbbaa

namespace Go.Proofs.Ythhiahjafhkbbaa
open Go.RowKit

set_option maxHeartbeats 800000 in
theorem wpEnts_any (a1 a2 : Option Addr) (n1 c1 n2 c2 : Nat) (L1 L2 : List EntD) (w : World) (h1 : EntsAt w a1 n1 c1 L1) (h2 : EntsAt w a2 n2 c2 L2) :
    Calls Try.prog 31 #[.slice a1 n1 c1, .slice a2 n2 c2] w fun e w' => e = .returned (.bool (decide (L1 = L2))) ∧ Below w.heap.size w w' := by
  have HN1 : Hid (L1.length = n1) := h1.length
  have HN2 : Hid (L2.length = n2) := h2.length
  have hr1 := h1.room
  have hb1 := h1.big
  have hr2 := h2.room
  have hb2 := h2.big
  unfold maxLen at hb1 hb2
  have H1 : Hid (EntsAt w a1 n1 c1 L1) := h1
  have H2 : Hid (EntsAt w a2 n2 c2 L2) := h2
  clear h1 h2
  by_cases hn : n1 = n2
  · subst hn
    go_enter Try.func31, Try.ntmps31
    go_wp2
    go_loopw [5] (fun i wr => ∃ k : Nat, k ≤ n1 ∧ i = .int .i64 k ∧ Below w.heap.size w wr ∧ L1.take k = L2.take k) (fun i _ => n1 - (intOf i).toNat)
    case atStart => exact ⟨0, Nat.zero_le _, rfl, Below.refl _ _, rfl⟩
    case round =>
      obtain ⟨k, hk, rfl, hb, heq⟩ := hrel
      have HEQ : Hid (L1.take k = L2.take k) := heq
      clear heq
      by_cases hlt : k < n1
      · obtain ⟨x1, o1, rfl, hx1⟩ := H1.out.form (by omega)
        obtain ⟨x2, o2, rfl, hx2⟩ := H2.out.form (by omega)
        obtain ⟨s, q, d, t, n, hg, _, g0, g1, g2, g3, g4⟩ := H1.out.ent hb hx1 k hlt
        obtain ⟨s', q', d', t', n', hg', _, p0, p1, p2, p3, p4⟩ := H2.out.ent hb hx2 k hlt
        have HG : Hid (L1[k]? = some (s, q, d, t, n)) := hg
        have HG' : Hid (L2[k]? = some (s', q', d', t', n')) := hg'
        have hltI : (k : Int) < (n1 : Int) := by omega
        clear hg hg'
        by_cases hl : (s, q, d, t, n) = (s', q', d', t', n')
        · cases hl
          have hne := neq_ent_same s t q d n
          go_wp2_with fail
          go_quiet (fail)
          go_wp2
          go_roundw
          case rel => exact ⟨k + 1, by omega, by go_num, below_drewN hb _, ents_eq_snoc HG.out HG'.out HEQ.out⟩
          case measure => simp [intOf]; omega
        · have hne := fun w => neq_ent_diff s t q d n s' t' q' d' n' w hl
          have HD : Hid (¬ (s, q, d, t, n) = (s', q', d', t', n')) := hl
          clear hl
          go_wp2_with fail
          go_quiet (fail)
          go_wp2
          go_ret
          refine ⟨ret_bool (decide_eq_false ?_).symm, below_drewN hb _⟩
          intro e
          rw [e, HG'.out] at HG
          exact HD.out (by simpa [Hid] using HG.symm)
      · go_wp2
        go_ret
        refine ⟨ret_bool (decide_eq_true ?_).symm, hb⟩
        have := HEQ.out
        rw [List.take_of_length_le (by rw [HN1.out]; omega), List.take_of_length_le (by rw [HN2.out]; omega)] at this
        exact this
  · go_enter Try.func31, Try.ntmps31
    go_wp2
    go_ret
    refine ⟨ret_bool (decide_eq_false ?_).symm, Below.refl _ _⟩
    intro e
    rw [e, HN2.out] at HN1
    exact hn HN1.out.symm

end Go.Proofs.Ythhiahjafhkbbaa

namespace Go.Proofs.Ythhiahjafhkbbaa

/-- A class whose sum can be held. -/
def sOk (c : List EntD) : Prop := c ≠ [] ∧ (∀ e ∈ c, KdE e) ∧ sumOkB (joinG true 0 c).2.2 = true
theorem cl_len1 {c : List EntD} (b : Bool) (h : sOk c) : (clS b c).length ≤ 1 := by
  obtain ⟨hne, hk, hs⟩ := h
  obtain ⟨e, R, rfl⟩ := List.exists_cons_of_ne_nil hne
  rcases class_one b e R hk hs with ho | ⟨x, ho, _⟩ <;> rw [ho] <;> simp
theorem join_two {e : EntD} {R : List EntD} (hk : ∀ x ∈ e :: R, KdE x) (h : (joinG true 0 (e :: R)).1 = 2) : e.2.2.1 = 2 := by
  rcases (hk e List.mem_cons_self).1 with h1 | h1 | h1
  · have hj : joinG true 0 (e :: R) = (1, e.2.2.2.1, 0 + e.2.2.2.2) := by simp [joinG, h1]
    rw [hj] at h; simp at h
  · exact h1
  · have hj : joinG true 0 (e :: R) = joinG false (0 + e.2.2.2.2) R := by
      conv => lhs; unfold joinG
      rw [if_neg (by omega), if_neg (by omega)]
    rw [hj] at h
    rcases join_kind R (0 + e.2.2.2.2) (fun x hx => hk x (List.mem_cons_of_mem _ hx)) with h2 | h2
    · omega
    · omega
theorem cl_nil {c : List EntD} {b : Bool} (h : sOk c) (h0 : clS b c = []) : b = true ∧ ∃ e R, c = e :: R ∧ e.2.2.1 = 2 := by
  obtain ⟨hne, hk, hs⟩ := h
  obtain ⟨e, R, rfl⟩ := List.exists_cons_of_ne_nil hne
  have h' : classG b e.1 e.2.1 (e :: R) = [] := h0
  unfold classG at h'
  rw [if_pos hs] at h'
  by_cases h2 : b = true ∧ (joinG true 0 (e :: R)).1 = 2
  · exact ⟨h2.1, e, R, rfl, join_two hk h2.2⟩
  · rw [if_neg h2] at h'; cases h'
theorem cl_del {e : EntD} {R : List EntD} (hk : KdE e) (h : e.2.2.1 = 2) : clS true (e :: R) = [] := by
  show classG true e.1 e.2.1 (e :: R) = []
  unfold classG
  have hj : joinG true 0 (e :: R) = (2, ⟨#[]⟩, 0) := by simp [joinG, h, hk.2 h]
  rw [hj, if_pos (by rfl), if_pos ⟨rfl, rfl⟩]
theorem fold_few (b : Bool) : ∀ Cs : List (List EntD), (∀ c ∈ Cs, sOk c) → (Cs.foldr (Sq.stepD clS) (b, [])).2.length ≤ Cs.length ∧ ((Cs.foldr (Sq.stepD clS) (b, [])).1 = true → b = true) ∧
    ((Cs.foldr (Sq.stepD clS) (b, [])).2 = [] → Cs = [] ∨ (b = true ∧ ∃ e R cs, Cs = (e :: R) :: cs ∧ e.2.2.1 = 2)) ∧
    (b = false → (Cs.foldr (Sq.stepD clS) (b, [])).2.length = Cs.length) ∧
    (b = true → ((Cs.foldr (Sq.stepD clS) (b, [])).1 = true ∨ (Cs.foldr (Sq.stepD clS) (b, [])).2 ≠ []) ∧ ∀ x, (Cs.foldr (Sq.stepD clS) (b, [])).2.getLast? = some x → x.2.2.1 = 1)
  | [], _ => ⟨Nat.le_refl _, fun h => h, fun _ => .inl rfl, fun _ => rfl, fun h => ⟨.inl h, fun x hx => by cases hx⟩⟩
  | c :: Cs, h => by
    obtain ⟨i1, i2, i3, i4, i5⟩ := fold_few b Cs (fun x hx => h x (List.mem_cons_of_mem _ hx))
    have hc := h c List.mem_cons_self
    rw [List.foldr_cons]
    obtain ⟨bb, R, hst⟩ : ∃ bb R, Cs.foldr (Sq.stepD clS) (b, []) = (bb, R) := ⟨_, _, rfl⟩
    rw [hst] at i1 i2 i3 i4 i5 ⊢
    simp only at i1 i2 i3 i4 i5
    have h1 := cl_len1 bb hc
    show (clS bb c ++ R).length ≤ _ ∧ ((if (clS bb c).isEmpty then bb else false) = true → _) ∧ (clS bb c ++ R = [] → _) ∧ (b = false → (clS bb c ++ R).length = _) ∧ (b = true → ((if (clS bb c).isEmpty then bb else false) = true ∨ clS bb c ++ R ≠ []) ∧ ∀ x, (clS bb c ++ R).getLast? = some x → x.2.2.1 = 1)
    refine ⟨by rw [List.length_append, List.length_cons]; omega, fun hb => ?_, fun h0 => ?_, fun hb => ?_, fun hb => ⟨?_, fun x hx => ?_⟩⟩
    · by_cases he : (clS bb c).isEmpty = true
      · rw [if_pos he] at hb; exact i2 hb
      · rw [if_neg he] at hb; cases hb
    · have h2 := cl_nil hc (List.append_eq_nil_iff.1 h0).1
      obtain ⟨e, T, rfl, he⟩ := h2.2
      exact .inr ⟨i2 h2.1, e, T, Cs, rfl, he⟩
    · have hbb : bb = false := by
        cases hbb : bb with
        | false => rfl
        | true => have := i2 hbb; rw [hb] at this; cases this
      have h2 : clS bb c ≠ [] := fun h0 => by have := (cl_nil hc h0).1; rw [hbb] at this; cases this
      have h3 : 1 ≤ (clS bb c).length := by
        cases hcl : clS bb c with
        | nil => exact absurd hcl h2
        | cons => simp
      rw [List.length_append, i4 hb, List.length_cons]
      omega
    · by_cases he : clS bb c = []
      · rcases (i5 hb).1 with h2 | h2
        · rw [he]; left; exact h2
        · right; rw [he]; exact h2
      · right
        exact fun h0 => he (List.append_eq_nil_iff.1 h0).1
    · by_cases hR : R = []
      · subst hR
        rw [List.append_nil] at hx
        have hbb : bb = true := by
          rcases (i5 hb).1 with h2 | h2
          · exact h2
          · exact absurd rfl h2
        obtain ⟨hne, hk, hs⟩ := hc
        obtain ⟨e, T, rfl⟩ := List.exists_cons_of_ne_nil hne
        rcases class_one bb e T hk hs with ho | ⟨y, ho, _, _, _, hy⟩
        · rw [ho] at hx; cases hx
        · rw [ho] at hx
          simp at hx
          subst hx
          exact hy hbb
      · obtain ⟨z, hz⟩ : ∃ z, R.getLast? = some z := ⟨_, List.getLast?_eq_some_getLast hR⟩
        rw [List.getLast?_append, hz] at hx
        simp at hx
        subst hx
        exact (i5 hb).2 z hz

/-! Lists of few and of many. -/
theorem flat_le {f f' : List EntD → List EntD} : ∀ Gs : List (List EntD), (∀ G ∈ Gs, (f G).length ≤ (f' G).length) → (Gs.flatMap f).length ≤ (Gs.flatMap f').length
  | [], _ => Nat.le_refl _
  | G :: Gs, h => by
    have ih := flat_le Gs (fun x hx => h x (List.mem_cons_of_mem _ hx))
    have h1 := h G List.mem_cons_self
    rw [List.flatMap_cons, List.flatMap_cons, List.length_append, List.length_append]
    omega
theorem flat_times {f : List EntD → List EntD} {k : Nat} : ∀ Gs : List (List EntD), (∀ G ∈ Gs, (f G).length ≤ k) → (Gs.flatMap f).length ≤ Gs.length * k
  | [], _ => by simp
  | G :: Gs, h => by
    have ih := flat_times Gs (fun x hx => h x (List.mem_cons_of_mem _ hx))
    have h1 := h G List.mem_cons_self
    rw [List.flatMap_cons, List.length_append, List.length_cons, Nat.succ_mul]
    omega
theorem count_more {p q : Int → Bool} (hpq : ∀ s, p s = true → q s = true) {s0 : Int} (h1 : q s0 = true) (h2 : p s0 = false) : ∀ S : List Int, s0 ∈ S → S.countP p + 1 ≤ S.countP q
  | [], h => by cases h
  | s :: S, h => by
    have hle : S.countP p ≤ S.countP q := List.countP_mono_left (fun x _ hx => hpq x hx)
    rw [List.countP_cons, List.countP_cons]
    rcases List.mem_cons.1 h with rfl | h
    · rw [h1, h2]; simp; exact hle
    · have ih := count_more hpq h1 h2 S h
      by_cases hp : p s = true
      · rw [hp, hpq s hp]; simp; omega
      · rw [if_neg hp]; omega
theorem parts_few (S : List Int) : ∀ (Cs : List (List EntD)) (c : List EntD) (z : EntD), (∀ d ∈ c :: Cs, d ≠ []) → Edges (cutB S) (c :: Cs) → (c :: Cs).flatten.Pairwise (fun a b => b.2.1 < a.2.1) → c.getLast? = some z → (c :: Cs).length ≤ 1 + S.countP (fun s => decide (s < z.2.1))
  | [], c, z, _, _, _, _ => by simp
  | d :: Cs, c, z, hne, hE, hp, hz => by
    have hp' : (d :: Cs).flatten.Pairwise (fun a b => b.2.1 < a.2.1) := by rw [List.flatten_cons] at hp; exact (List.pairwise_append.1 hp).2.1
    obtain ⟨f, U, hdf⟩ := List.exists_cons_of_ne_nil (hne d (List.mem_cons_of_mem _ List.mem_cons_self))
    obtain ⟨y, hy⟩ : ∃ y, d.getLast? = some y := by rw [hdf]; exact ⟨_, List.getLast?_eq_some_getLast (by simp)⟩
    have ih := parts_few S Cs d y (fun x hx => hne x (List.mem_cons_of_mem _ hx)) hE.2 hp' hy
    have h2 := hE.1 z f hz (by rw [hdf]; rfl)
    have h3 := (head_top hdf hp').1 y (List.mem_of_getLast? hy)
    unfold cutB at h2
    simp only [Bool.not_eq_false'] at h2
    obtain ⟨s, hs1, hs2⟩ := List.any_eq_true.1 h2
    simp only [Bool.and_eq_true, decide_eq_true_eq] at hs2
    have h4 := count_more (p := fun s => decide (s < y.2.1)) (q := fun s => decide (s < z.2.1)) (fun t ht => by simp only [decide_eq_true_eq] at ht ⊢; omega) (s0 := s) (by simp only [decide_eq_true_eq]; omega) (by simp only [decide_eq_false_iff_not]; omega) S hs1
    rw [List.length_cons]
    omega
/-- The last of a key is a put. -/
def LastPut (M : List EntD) : Prop := ∀ (i : Nat) x, M[i]? = some x → (M[i + 1]? = none ∨ ∃ y, M[i + 1]? = some y ∧ y.1 ≠ x.1) → x.2.2.1 = 1
theorem lastPut_app {H M : List EntD} {k : ByteArray} (hk : ∀ e ∈ H, e.1 = k) (hl : ∀ x, H.getLast? = some x → x.2.2.1 = 1) (hM : LastPut M) : LastPut (H ++ M) := by
  intro i x hx hn
  by_cases hi : i < H.length
  · rw [List.getElem?_append_left hi] at hx
    by_cases hi2 : i + 1 < H.length
    · rw [List.getElem?_append_left hi2] at hn
      exfalso
      rcases hn with h | ⟨y, hy, hne⟩
      · rw [List.getElem?_eq_getElem hi2] at h; cases h
      · exact hne (by rw [hk y (List.mem_of_getElem? hy), hk x (List.mem_of_getElem? hx)])
    · refine hl x ?_
      rw [List.getLast?_eq_getElem?, show H.length - 1 = i by omega]
      exact hx
  · rw [List.getElem?_append_right (by omega)] at hx hn
    exact hM (i - H.length) x hx (by rw [show i - H.length + 1 = i + 1 - H.length by omega]; exact hn)

/-! All of it. -/
/-- Numbers so small that all sums can be held. -/
def SmL (L : List EntD) : Prop := L.length ≤ 100 ∧ ∀ e ∈ L, -1000 ≤ e.2.2.2.2 ∧ e.2.2.2.2 ≤ 1000
theorem class_ok {L : List EntD} (hr : rightB L = true) (hs : SmL L) (S : List Int) {G : List EntD} (hG : G ∈ Sq.parts keyEq L) : ∀ c ∈ Sq.parts (cutB S) G, sOk c := fun c hc => by
  have hcL : ∀ e ∈ c, e ∈ L := fun e he => (part_len _ _ G hG).2 e ((part_len _ _ c hc).2 e he)
  have hl : c.length ≤ 100 := Nat.le_trans (part_len _ _ c hc).1 (Nat.le_trans (part_len _ _ G hG).1 hs.1)
  have hb := join_sumB 1000 (by omega) c true 0 (fun e he => hs.2 e (hcL e he))
  refine ⟨part_ne _ _ c hc, fun e he => right_kd hr e (hcL e he), ?_⟩
  simp only [sumOkB, Bool.and_eq_true, decide_eq_true_eq]
  omega
theorem few_times {L : List EntD} (hr : rightB L = true) (hs : SmL L) (S : List Int) (b : Bool) {G : List EntD} (hG : G ∈ Sq.parts keyEq L) : (leftS S b G).length ≤ S.length + 1 := by
  have h1 := (fold_few b (Sq.parts (cutB S) G) (class_ok hr hs S hG)).1
  refine Nat.le_trans h1 ?_
  have hne := part_ne (cutB S) G
  have hE := parts_edges (cutB S) G
  have hp := group_desc (right_pair hr) hG
  rw [← Sq.parts_flat (cutB S) G] at hp
  cases hC : Sq.parts (cutB S) G with
  | nil => simp
  | cons c Cs =>
    rw [hC] at hne hE hp
    obtain ⟨e, R, hce⟩ := List.exists_cons_of_ne_nil (hne c List.mem_cons_self)
    obtain ⟨z, hz⟩ : ∃ z, c.getLast? = some z := by rw [hce]; exact ⟨_, List.getLast?_eq_some_getLast (by simp)⟩
    have h2 := parts_few S Cs c z hne hE hp hz
    have h3 : S.countP (fun s => decide (s < z.2.1)) ≤ S.length := List.countP_le_length
    omega
theorem squash_few {L : List EntD} (hs : SmL L) (S : List Int) (b : Bool) : (squashL L S b).length ≤ (Sq.parts keyEq L).length * (S.length + 1) := by
  unfold squashL
  by_cases hr : rightB L = true
  · rw [if_pos hr]; exact flat_times _ (fun G hG => few_times hr hs S b hG)
  · rw [if_neg hr]; simp
theorem squash_low {L : List EntD} (hs : SmL L) (S : List Int) : (squashL L S true).length ≤ (squashL L S false).length := by
  unfold squashL
  by_cases hr : rightB L = true
  · rw [if_pos hr, if_pos hr]
    refine flat_le _ (fun G hG => ?_)
    have h1 := (fold_few true (Sq.parts (cutB S) G) (class_ok hr hs S hG)).1
    have h2 := (fold_few false (Sq.parts (cutB S) G) (class_ok hr hs S hG)).2.2.2.1 rfl
    show (Sq.leftD clS true _).length ≤ (Sq.leftD clS false _).length
    unfold Sq.leftD
    omega
  · rw [if_neg hr, if_neg hr]; exact Nat.le_refl _
theorem squash_none_le {L : List EntD} (hs : SmL L) (S : List Int) (b : Bool) : (squashL L [] b).length ≤ (squashL L S b).length := by
  unfold squashL
  by_cases hr : rightB L = true
  · rw [if_pos hr, if_pos hr]
    refine flat_le _ (fun G hG => ?_)
    have hne := part_ne _ _ G hG
    have hc : Sq.parts (cutB []) G = [G] := Sq.parts_chain _ _ hne (fun j x y _ _ => rfl)
    have hok := class_ok hr hs [] hG G (by rw [hc]; exact List.mem_cons_self)
    have hL : leftS [] b G = clS b G := by
      unfold leftS Sq.leftD
      rw [hc]
      show clS b G ++ [] = _
      rw [List.append_nil]
    rw [hL]
    have h1 := cl_len1 b hok
    by_cases h0 : leftS S b G = []
    · have h2 := (fold_few b (Sq.parts (cutB S) G) (class_ok hr hs S hG)).2.2.1 h0
      obtain ⟨x, T, hGx⟩ := List.exists_cons_of_ne_nil hne
      obtain ⟨c', cs', hp⟩ := Sq.parts_head (cutB S) x T
      rw [← hGx] at hp
      rcases h2 with h2 | ⟨hb, e, R, cs, h2, he⟩
      · rw [hp] at h2; cases h2
      · rw [hp] at h2
        cases h2
        rw [hb, hGx, cl_del (hok.2.1 x (by rw [hGx]; exact List.mem_cons_self)) he]
        exact Nat.zero_le _
    · have : 1 ≤ (leftS S b G).length := by
        cases hl : leftS S b G with
        | nil => exact absurd hl h0
        | cons => simp
      omega
  · rw [if_neg hr, if_neg hr]; exact Nat.le_refl _
theorem squash_puts {L : List EntD} (hs : SmL L) (S : List Int) : LastPut (squashL L S true) := by
  unfold squashL
  by_cases hr : rightB L = true
  · rw [if_pos hr]
    have key : ∀ Gs : List (List EntD), (∀ G ∈ Gs, G ∈ Sq.parts keyEq L) → LastPut (Gs.flatMap (leftS S true)) := by
      intro Gs
      induction Gs with
      | nil => intro _ i x hx; cases hx
      | cons G Gs ih =>
        intro h
        have hG := h G List.mem_cons_self
        obtain ⟨k, hk⟩ := group_key hG
        rw [List.flatMap_cons]
        refine lastPut_app (k := k) (fun e he => ?_) (((fold_few true (Sq.parts (cutB S) G) (class_ok hr hs S hG)).2.2.2.2 rfl).2) (ih (fun x hx => h x (List.mem_cons_of_mem _ hx)))
        obtain ⟨y, hy, h1, _⟩ := left_mem S true G e he
        rw [h1]; exact hk y hy
    exact key _ (fun G hG => hG)
  · rw [if_neg hr]; intro i x hx; cases hx
/-- How many parts of like keys there are, up to number k. -/
theorem keys_snoc (L : List EntD) (e : EntD) : (Sq.parts keyEq (L ++ [e])).length = (Sq.parts keyEq L).length + (match L.getLast? with | none => 1 | some x => if x.1 = e.1 then 0 else 1) := by
  cases hL : L.getLast? with
  | none =>
    have : L = [] := List.getLast?_eq_none_iff.1 hL
    subst this
    rfl
  | some x =>
    simp only
    by_cases hx : x.1 = e.1
    · rw [if_pos hx]
      have key : ∀ (M : List EntD) (x e : EntD), M.getLast? = some x → x.1 = e.1 → (Sq.parts keyEq (M ++ [e])).length = (Sq.parts keyEq M).length := by
        intro M
        induction M with
        | nil => intro x e h; cases h
        | cons z M ih =>
          intro x e h hxe
          cases M with
          | nil =>
            simp at h
            subst h
            have : keyEq z e = true := decide_eq_true hxe
            simp [Sq.parts, Sq.putP, this]
          | cons y R =>
            rw [List.getLast?_cons_cons] at h
            have h1 := ih x e h hxe
            rw [List.cons_append, Sq.parts_cons, Sq.parts_cons]
            obtain ⟨c, cs, hp⟩ := Sq.parts_head keyEq y R
            obtain ⟨c', cs', hp'⟩ := Sq.parts_head keyEq y (R ++ [e])
            rw [← List.cons_append] at hp'
            rw [hp, hp'] at h1 ⊢
            by_cases hr : keyEq z y = true
            · simp [Sq.putP, hr] at h1 ⊢; exact h1
            · simp [Sq.putP, hr] at h1 ⊢; exact h1
      rw [key L x e hL hx]
      rfl
    · rw [if_neg hx, Sq.parts_app keyEq L [e] (fun a b ha hb => by
        rw [hL] at ha
        simp at ha hb
        subst ha
        subst hb
        exact decide_eq_false hx), List.length_append]
      rfl
end Go.Proofs.Ythhiahjafhkbbaa

namespace Go.Proofs.Ythhiahjafhkbbaa
open Go.RowKit

/-- What lies where. -/
structure FqSt (w wi : World) (g n c gt nt ct : Nat) (ag : Option Addr) (ng cg : Nat) (L : List EntD) (T : List Int) (F : List EntD) : Prop where
  all : Below w.heap.size w wi
  ol : OwnE wi w.heap.size g n c L
  ot : OwnN wi w.heap.size gt nt ct T
  og : OwnO wi w.heap.size ag ng cg F
theorem FqSt.below {w wi wj : World} {g n c gt nt ct : Nat} {ag : Option Addr} {ng cg : Nat} {L : List EntD} {T : List Int} {F : List EntD} (h : FqSt w wi g n c gt nt ct ag ng cg L T F) (hb : Below wi.heap.size wi wj) : FqSt w wj g n c gt nt ct ag ng cg L T F :=
  ⟨h.all.trans (hb.mono h.all.size), h.ol.below hb, h.ot.below hb, h.og.below hb⟩

def keysN (L : List EntD) (i : Nat) : Nat := (Sq.parts keyEq (L.take i)).length
theorem keysN_zero (L : List EntD) : keysN L 0 = 0 := rfl
theorem keysN_first {L : List EntD} {e : EntD} (h : L[0]? = some e) : keysN L 1 = 1 := by
  match L, h with
  | x :: R, _ => rfl
theorem keysN_step {L : List EntD} {i p : Nat} {e x : EntD} (hi : i = p + 1) (he : L[i]? = some e) (hx : L[p]? = some x) : keysN L (i + 1) = keysN L i + (if x.1 = e.1 then 0 else 1) := by
  unfold keysN
  obtain ⟨hil, hie⟩ := List.getElem?_eq_some_iff.1 he
  rw [List.take_add_one, he]
  show (Sq.parts keyEq (L.take i ++ [e])).length = _
  rw [keys_snoc]
  have hg : (L.take i).getLast? = some x := by
    rw [List.getLast?_eq_getElem?, List.length_take, Nat.min_eq_left (by omega), List.getElem?_take_of_lt (by omega), show i - 1 = p by omega]
    exact hx
  rw [hg]
theorem keysN_le (L : List EntD) (i : Nat) : keysN L i ≤ i := by
  have h : (Sq.parts keyEq (L.take i)).length ≤ (L.take i).length := parts_count keyEq (L.take i)
  unfold keysN
  rw [List.length_take] at h
  omega
theorem Try.infoStrF : (Try.prog.info? 9).map (fun i => (i.zero, i.size, i.bytes)) = some (some (.string ⟨#[]⟩), 1, 16) := by kernel_rfl

set_option maxRecDepth 100000 in
set_option maxHeartbeats 4000000 in
theorem wpKeys2_any (b off n c : Nat) (L : List EntD) (w : World) (hL : EntsAt w (some ⟨b, off, none⟩) n c L) (hn : n ≤ 1048576) (hbw : b < w.heap.size) :
    Calls Try.prog 35 #[.slice (some ⟨b, off, none⟩) n c] w fun e w' => ∃ v cp, e = .returned (.slice v (Sq.parts keyEq L).length cp) ∧ Below w.heap.size w w' := by
  have HLEN : Hid (L.length = n) := hL.length
  have HL : Hid (EntsAt w (some ⟨b, off, none⟩) n c L) := hL
  obtain ⟨i0, hi, hz0, hz1, hz2⟩ := info_parts Try.infoStrF
  have HA0 : Hid (Below w.heap.size w (w.alloc (.cells #[] 9))) := (Below.refl _ _).alloc (Nat.le_refl _) _
  have HR0 : Hid ((w.alloc (.cells #[] 9)).ownsRow w.heap.size 9 1 (.slice (some ⟨w.heap.size, 0, none⟩) 0 0) 0 []) := by
    have := World.ownsRow_lit (base := w.heap.size) (e := 9) (size := 1) w #[] 0 (Nat.le_refl _) (by simp) (by simp)
    show World.ownsRow _ _ _ _ _ _ _
    simpa using this
  clear hL
  go_enter Try.func35, Try.ntmps35
  go_wp2
  go_loopw [3, 4] (fun o iv wr => ∃ (i k g cp : Nat) (xs : List Value), i ≤ n ∧ iv = .int .i64 i ∧ o = .slice (some ⟨g, 0, none⟩) k cp ∧ wr.ownsRow w.heap.size 9 1 (.slice (some ⟨g, 0, none⟩) k cp) k xs ∧ Below w.heap.size w wr ∧ k = keysN L i) (fun _ iv _ => n - (intOf iv).toNat)
  case atStart => exact ⟨0, 0, w.heap.size, 0, [], Nat.zero_le _, rfl, rfl, HR0.out, HA0.out, rfl⟩
  case round =>
    clear HR0 HA0
    obtain ⟨i, k, g, cp, xs, hin, rfl, rfl, hR, hB, hk⟩ := hrel
    have HB : Hid (Below w.heap.size w wr) := hB
    have HR : Hid (wr.ownsRow w.heap.size 9 1 (.slice (some ⟨g, 0, none⟩) k cp) k xs) := hR
    have HKK : Hid (k = keysN L i) := hk
    have hki : k ≤ 1048576 := by have := keysN_le L i; omega
    clear hR hB hk
    by_cases hil : i < n
    · have hilI : (i : Int) < (n : Int) := by omega
      have zb : b < wr.heap.size := Nat.lt_of_lt_of_le hbw HB.out.size
      obtain ⟨s', q', d', t', m', hy, _, e0, _⟩ := HL.out.ent HB.out hbw i hil
      have HY : Hid (L[i]? = some (s', q', d', t', m')) := hy
      have k0 : Below wr.heap.size wr wr.drew := (Below.refl _ wr).drew
      have HBD : Hid (Below w.heap.size w wr.drew) := HB.out.trans (k0.mono HB.out.size)
      have HRW : Hid (wr.drew.ownsRow w.heap.size 9 1 (.slice (some ⟨g, 0, none⟩) k cp) k xs) := HR.out.drew
      by_cases hi0 : i = 0
      · subst hi0
        simp only [Nat.zero_mul, Nat.add_zero] at e0
        have HMK : Hid (∀ w', Below wr.heap.size wr w' → (b < w'.heap.size)) := fun w' kk => Nat.lt_of_lt_of_le zb kk.size
        have HKS : Hid (keysN L (0 + 1) = keysN L 0 + 1) := by show keysN L 1 = 0 + 1; rw [keysN_first HY.out]
        have ed : wr.drew.cell? ⟨b, off, none⟩ = some (.string s') := e0
        have zd : b < wr.drew.heap.size := zb
        clear hy
        go_wp2_with fail
        refine wp_region_held_drew (S := (fun w' => b < w'.heap.size)) (by kernel_rfl) (HMK.out _ k0) (fun hHeld => ?_)
        refine wpAnyH_takeL (i := 0) (v := ?_) rfl (by kernel_rfl) (by kernel_rfl) (by kernel_rfl) (fun _ _ _ h => h) (Or.inl ⟨by rfl, ?_⟩) hHeld ?_
        rotate_left
        · (intro w hSw; (try dsimp only at hSw); go_simp; try with_reducible rfl)
        try go_frame
        refine wpAnyH_takeL (i := 1) (v := ?_) rfl (by kernel_rfl) (by kernel_rfl) (by kernel_rfl) (fun _ _ _ h => h) (Or.inl ⟨by rfl, ?_⟩) hHeld ?_
        rotate_left
        · (intro w hSw; (try dsimp only at hSw); go_simp; try with_reducible rfl)
        try go_frame
        refine wpAnyH_takeL (i := 2) (v := ?_) rfl (by kernel_rfl) (by kernel_rfl) (by kernel_rfl) (fun _ _ _ h => h) (Or.inl ⟨by rfl, ?_⟩) hHeld ?_
        rotate_left
        · (intro w hSw; (try dsimp only at hSw); go_simp; try with_reducible rfl)
        try go_frame
        refine wpAnyH_takeL (i := 3) (v := undef) rfl (by kernel_rfl) (by kernel_rfl) (by kernel_rfl) (fun _ _ _ h => h) (Or.inr ⟨by rfl, rfl⟩) hHeld ?_
        try go_frame
        refine wpAnyH_takeL (i := 4) (v := undef) rfl (by kernel_rfl) (by kernel_rfl) (by kernel_rfl) (fun _ _ _ h => h) (Or.inr ⟨by rfl, rfl⟩) hHeld ?_
        try go_frame
        refine wpAnyH_takeL (i := 5) (v := undef) rfl (by kernel_rfl) (by kernel_rfl) (by kernel_rfl) (fun _ _ _ h => h) (Or.inr ⟨by rfl, rfl⟩) hHeld ?_
        try go_frame
        refine wpAnyH_takeL (i := 6) (v := undef) rfl (by kernel_rfl) (by kernel_rfl) (by kernel_rfl) (fun _ _ _ h => h) (Or.inr ⟨by rfl, rfl⟩) hHeld ?_
        try go_frame
        refine wpAnyH_takeL (i := 7) (v := undef) rfl (by kernel_rfl) (by kernel_rfl) (by kernel_rfl) (fun _ _ _ h => h) (Or.inr ⟨by rfl, rfl⟩) hHeld ?_
        try go_frame
        refine wpAnyH_takeL (i := 8) (v := undef) rfl (by kernel_rfl) (by kernel_rfl) (by kernel_rfl) (fun _ _ _ h => h) (Or.inr ⟨by rfl, rfl⟩) hHeld ?_
        try go_frame
        refine wpAnyH_takeL (i := 9) (v := undef) rfl (by kernel_rfl) (by kernel_rfl) (by kernel_rfl) (fun _ _ _ h => h) (Or.inr ⟨by rfl, rfl⟩) hHeld ?_
        try go_frame
        refine wpAnyH_takeL (i := 10) (v := undef) rfl (by kernel_rfl) (by kernel_rfl) (by kernel_rfl) (fun _ _ _ h => h) (Or.inr ⟨by rfl, rfl⟩) hHeld ?_
        try go_frame
        refine wpAnyH_takeL (i := 11) (v := undef) rfl (by kernel_rfl) (by kernel_rfl) (by kernel_rfl) (fun _ _ _ h => h) (Or.inr ⟨by rfl, rfl⟩) hHeld ?_
        try go_frame
        refine wpAnyH_takeL (i := 12) (v := undef) rfl (by kernel_rfl) (by kernel_rfl) (by kernel_rfl) (fun _ _ _ h => h) (Or.inr ⟨by rfl, rfl⟩) hHeld ?_
        try go_frame
        refine wpAnyH_takeL (i := 13) (v := undef) rfl (by kernel_rfl) (by kernel_rfl) (by kernel_rfl) (fun _ _ _ h => h) (Or.inr ⟨by rfl, rfl⟩) hHeld ?_
        try go_frame
        refine wpAnyH_takeL (i := 14) (v := undef) rfl (by kernel_rfl) (by kernel_rfl) (by kernel_rfl) (fun _ _ _ h => h) (Or.inr ⟨by rfl, rfl⟩) hHeld ?_
        try go_frame
        refine wpAnyH_takeL (i := 15) (v := ?_) rfl (by kernel_rfl) (by kernel_rfl) (by kernel_rfl) (fun _ _ _ h => h) (Or.inl ⟨by rfl, ?_⟩) hHeld ?_
        rotate_left
        · (intro w hSw; (try dsimp only at hSw); go_simp; try with_reducible rfl)
        try go_frame
        refine wpAnyH_done (by kernel_rfl) ?_ _
        clear HMK hHeld k0
        obtain ⟨wd, hwd⟩ : ∃ wd, wd = wr.drew := ⟨_, rfl⟩
        rw [← hwd] at HBD HRW ed zd ⊢
        clear hwd HB HR e0 zb
        go_wp2_with (at_builtin; refine wpList_append_own_at _ rfl _ _ 60 rfl w.heap.size 9 i0 _ 1 16 Try.underlying60 hi hz0 hz1 hz2 rfl (by decide) _ _ _ rfl (HRW.out.alloc _) ⟨wd.heap.size, 0, none⟩ 1 1 [.string s'] rfl rfl (cellI_one _ _ _) (by simp [Value.oneCell']) (by unfold maxLen; omega) (by omega) (by have := HBD.out.size; simp; omega) ?_; intro v6 w6 hown6 hgrow6 hnil6 hat6; obtain ⟨g6, c6, rfl⟩ := sd_some hown6; have HB6 : Hid (Below w.heap.size w w6) := (HBD.out.alloc HBD.out.size _).grown hgrow6 (by have := HBD.out.size; simp; omega) (fun q hq => (HRW.out.lt q hq).1); have HR6 : Hid (w6.ownsRow w.heap.size 9 1 (.slice (some ⟨g6, 0, none⟩) (k + 1) c6) (k + 1) (xs ++ [.string s'])) := hown6; clear hown6 hgrow6 hnil6 hat6 HRW HBD)
        go_roundw
        case rel => exact ⟨0 + 1, k + 1, g6, c6, _, by omega, by go_num, rfl, HR6.out, HB6.out, by rw [HKS.out, HKK.out]⟩
        case measure => simp [intOf] <;> omega
      · obtain ⟨p, hp⟩ : ∃ p, i = p + 1 := ⟨i - 1, by omega⟩
        have hiB : ((i : Int) == 0) = false := by simp; omega
        have hiE : ¬ (i : Int) = 0 := by omega
        have wi : IntKind.i64.wrap ((i : Int) - 1) = (p : Int) := by
          have e : (i : Int) - 1 = (p : Int) := by omega
          rw [e, IntWalk.i64_left]; unfold wrap64; omega
        have hpI : (p : Int) < (n : Int) := by omega
        obtain ⟨s, q, d, t, m, hx, _, g0, _⟩ := HL.out.ent HB.out hbw p (by omega)
        have HMK : Hid (∀ w', Below wr.heap.size wr w' → (w'.cell? ⟨b, off + i * 5, none⟩ = some (.string s') ∧ w'.cell? ⟨b, off + p * 5, none⟩ = some (.string s) ∧ b < w'.heap.size)) := fun w' kk => ⟨cell_later kk e0, cell_later kk g0, Nat.lt_of_lt_of_le zb kk.size⟩
        have HST := keysN_step hp hy hx
        simp only at HST
        have ed : wr.drew.cell? ⟨b, off + i * 5, none⟩ = some (.string s') := e0
        have zd : b < wr.drew.heap.size := zb
        clear hy hx hp g0
        by_cases hss : s = s'
        · subst hss
          have HKS : Hid (keysN L (i + 1) = keysN L i) := by show _ = _; rw [HST, if_pos rfl]; rfl
          have e1 : (s.toList == s.toList) = true := by simp
          clear HST
          go_wp2_with fail
          refine wp_region_held_drew (S := (fun w' => w'.cell? ⟨b, off + i * 5, none⟩ = some (.string s) ∧ w'.cell? ⟨b, off + p * 5, none⟩ = some (.string s) ∧ b < w'.heap.size)) (by kernel_rfl) (HMK.out _ k0) (fun hHeld => ?_)
          refine wpAnyH_takeL (i := 0) (v := ?_) rfl (by kernel_rfl) (by kernel_rfl) (by kernel_rfl) (fun _ _ _ h => h) (Or.inl ⟨by rfl, ?_⟩) hHeld ?_
          rotate_left
          · (intro w hSw; (try dsimp only at hSw); go_simp; try with_reducible rfl)
          try go_frame
          refine wpAnyH_takeL (i := 1) (v := ?_) rfl (by kernel_rfl) (by kernel_rfl) (by kernel_rfl) (fun _ _ _ h => h) (Or.inl ⟨by rfl, ?_⟩) hHeld ?_
          rotate_left
          · (intro w hSw; (try dsimp only at hSw); go_simp; try with_reducible rfl)
          try go_frame
          refine wpAnyH_takeL (i := 2) (v := ?_) rfl (by kernel_rfl) (by kernel_rfl) (by kernel_rfl) (fun _ _ _ h => h) (Or.inl ⟨by rfl, ?_⟩) hHeld ?_
          rotate_left
          · (intro w hSw; (try dsimp only at hSw); go_simp; try with_reducible rfl)
          try go_frame
          refine wpAnyH_takeL (i := 3) (v := ?_) rfl (by kernel_rfl) (by kernel_rfl) (by kernel_rfl) (fun _ _ _ h => h) (Or.inl ⟨by rfl, ?_⟩) hHeld ?_
          rotate_left
          · (intro w hSw; (try dsimp only at hSw); go_simp; try with_reducible rfl)
          try go_frame
          refine wpAnyH_takeL (i := 4) (v := ?_) rfl (by kernel_rfl) (by kernel_rfl) (by kernel_rfl) (fun _ _ _ h => h) (Or.inl ⟨by rfl, ?_⟩) hHeld ?_
          rotate_left
          · (intro w hSw; (try dsimp only at hSw); go_simp; try with_reducible rfl)
          try go_frame
          refine wpAnyH_takeL (i := 5) (v := ?_) rfl (by kernel_rfl) (by kernel_rfl) (by kernel_rfl) (fun _ _ _ h => h) (Or.inl ⟨by rfl, ?_⟩) hHeld ?_
          rotate_left
          · (intro w hSw; (try dsimp only at hSw); go_simp; try with_reducible rfl)
          try go_frame
          refine wpAnyH_takeL (i := 6) (v := ?_) rfl (by kernel_rfl) (by kernel_rfl) (by kernel_rfl) (fun _ _ _ h => h) (Or.inl ⟨by rfl, ?_⟩) hHeld ?_
          rotate_left
          · (intro w hSw; (try dsimp only at hSw); go_simp; try with_reducible rfl)
          try go_frame
          refine wpAnyH_takeL (i := 7) (v := ?_) rfl (by kernel_rfl) (by kernel_rfl) (by kernel_rfl) (fun _ _ _ h => h) (Or.inl ⟨by rfl, ?_⟩) hHeld ?_
          rotate_left
          · (intro w hSw; (try dsimp only at hSw); go_simp; try with_reducible rfl)
          try go_frame
          refine wpAnyH_takeL (i := 8) (v := ?_) rfl (by kernel_rfl) (by kernel_rfl) (by kernel_rfl) (fun _ _ _ h => h) (Or.inl ⟨by rfl, ?_⟩) hHeld ?_
          rotate_left
          · (intro w hSw; (try dsimp only at hSw); go_simp; try with_reducible rfl)
          try go_frame
          refine wpAnyH_takeL (i := 9) (v := ?_) rfl (by kernel_rfl) (by kernel_rfl) (by kernel_rfl) (fun _ _ _ h => h) (Or.inl ⟨by rfl, ?_⟩) hHeld ?_
          rotate_left
          · (intro w hSw; (try dsimp only at hSw); go_simp; try with_reducible rfl)
          try go_frame
          refine wpAnyH_takeL (i := 10) (v := ?_) rfl (by kernel_rfl) (by kernel_rfl) (by kernel_rfl) (fun _ _ _ h => h) (Or.inl ⟨by rfl, ?_⟩) hHeld ?_
          rotate_left
          · (intro w hSw; (try dsimp only at hSw); go_simp; try with_reducible rfl)
          try go_frame
          refine wpAnyH_takeL (i := 11) (v := ?_) rfl (by kernel_rfl) (by kernel_rfl) (by kernel_rfl) (fun _ _ _ h => h) (Or.inl ⟨by rfl, ?_⟩) hHeld ?_
          rotate_left
          · (intro w hSw; (try dsimp only at hSw); go_simp; try with_reducible rfl)
          try go_frame
          refine wpAnyH_takeL (i := 12) (v := ?_) rfl (by kernel_rfl) (by kernel_rfl) (by kernel_rfl) (fun _ _ _ h => h) (Or.inl ⟨by rfl, ?_⟩) hHeld ?_
          rotate_left
          · (intro w hSw; (try dsimp only at hSw); go_simp; try with_reducible rfl)
          try go_frame
          refine wpAnyH_takeL (i := 13) (v := ?_) rfl (by kernel_rfl) (by kernel_rfl) (by kernel_rfl) (fun _ _ _ h => h) (Or.inl ⟨by rfl, ?_⟩) hHeld ?_
          rotate_left
          · (intro w hSw; (try dsimp only at hSw); go_simp; try with_reducible rfl)
          try go_frame
          refine wpAnyH_takeL (i := 14) (v := ?_) rfl (by kernel_rfl) (by kernel_rfl) (by kernel_rfl) (fun _ _ _ h => h) (Or.inl ⟨by rfl, ?_⟩) hHeld ?_
          rotate_left
          · (intro w hSw; (try dsimp only at hSw); go_simp; try with_reducible rfl)
          try go_frame
          refine wpAnyH_takeL (i := 15) (v := ?_) rfl (by kernel_rfl) (by kernel_rfl) (by kernel_rfl) (fun _ _ _ h => h) (Or.inl ⟨by rfl, ?_⟩) hHeld ?_
          rotate_left
          · (intro w hSw; (try dsimp only at hSw); go_simp; try with_reducible rfl)
          try go_frame
          refine wpAnyH_done (by kernel_rfl) ?_ _
          clear HMK hHeld k0
          go_wp2
          go_roundw
          case rel => exact ⟨i + 1, k, g, cp, xs, by omega, by go_num, rfl, HRW.out, HBD.out, by rw [HKS.out, HKK.out]⟩
          case measure => simp [intOf] <;> omega
        · have HKS : Hid (keysN L (i + 1) = keysN L i + 1) := by show _ = _; rw [HST, if_neg hss]
          have hne : ¬ s'.toList = s.toList := by
            rw [ByteArray.toList_eq, ByteArray.toList_eq]
            intro h
            exact hss (ByteArray.ext (Array.toList_inj.1 h)).symm
          have hne' : (s'.toList == s.toList) = false := by simpa using hne
          clear hss HST
          go_wp2_with fail
          refine wp_region_held_drew (S := (fun w' => w'.cell? ⟨b, off + i * 5, none⟩ = some (.string s') ∧ w'.cell? ⟨b, off + p * 5, none⟩ = some (.string s) ∧ b < w'.heap.size)) (by kernel_rfl) (HMK.out _ k0) (fun hHeld => ?_)
          refine wpAnyH_takeL (i := 0) (v := ?_) rfl (by kernel_rfl) (by kernel_rfl) (by kernel_rfl) (fun _ _ _ h => h) (Or.inl ⟨by rfl, ?_⟩) hHeld ?_
          rotate_left
          · (intro w hSw; (try dsimp only at hSw); go_simp; try with_reducible rfl)
          try go_frame
          refine wpAnyH_takeL (i := 1) (v := ?_) rfl (by kernel_rfl) (by kernel_rfl) (by kernel_rfl) (fun _ _ _ h => h) (Or.inl ⟨by rfl, ?_⟩) hHeld ?_
          rotate_left
          · (intro w hSw; (try dsimp only at hSw); go_simp; try with_reducible rfl)
          try go_frame
          refine wpAnyH_takeL (i := 2) (v := ?_) rfl (by kernel_rfl) (by kernel_rfl) (by kernel_rfl) (fun _ _ _ h => h) (Or.inl ⟨by rfl, ?_⟩) hHeld ?_
          rotate_left
          · (intro w hSw; (try dsimp only at hSw); go_simp; try with_reducible rfl)
          try go_frame
          refine wpAnyH_takeL (i := 3) (v := ?_) rfl (by kernel_rfl) (by kernel_rfl) (by kernel_rfl) (fun _ _ _ h => h) (Or.inl ⟨by rfl, ?_⟩) hHeld ?_
          rotate_left
          · (intro w hSw; (try dsimp only at hSw); go_simp; try with_reducible rfl)
          try go_frame
          refine wpAnyH_takeL (i := 4) (v := ?_) rfl (by kernel_rfl) (by kernel_rfl) (by kernel_rfl) (fun _ _ _ h => h) (Or.inl ⟨by rfl, ?_⟩) hHeld ?_
          rotate_left
          · (intro w hSw; (try dsimp only at hSw); go_simp; try with_reducible rfl)
          try go_frame
          refine wpAnyH_takeL (i := 5) (v := ?_) rfl (by kernel_rfl) (by kernel_rfl) (by kernel_rfl) (fun _ _ _ h => h) (Or.inl ⟨by rfl, ?_⟩) hHeld ?_
          rotate_left
          · (intro w hSw; (try dsimp only at hSw); go_simp; try with_reducible rfl)
          try go_frame
          refine wpAnyH_takeL (i := 6) (v := ?_) rfl (by kernel_rfl) (by kernel_rfl) (by kernel_rfl) (fun _ _ _ h => h) (Or.inl ⟨by rfl, ?_⟩) hHeld ?_
          rotate_left
          · (intro w hSw; (try dsimp only at hSw); go_simp; try with_reducible rfl)
          try go_frame
          refine wpAnyH_takeL (i := 7) (v := ?_) rfl (by kernel_rfl) (by kernel_rfl) (by kernel_rfl) (fun _ _ _ h => h) (Or.inl ⟨by rfl, ?_⟩) hHeld ?_
          rotate_left
          · (intro w hSw; (try dsimp only at hSw); go_simp; try with_reducible rfl)
          try go_frame
          refine wpAnyH_takeL (i := 8) (v := ?_) rfl (by kernel_rfl) (by kernel_rfl) (by kernel_rfl) (fun _ _ _ h => h) (Or.inl ⟨by rfl, ?_⟩) hHeld ?_
          rotate_left
          · (intro w hSw; (try dsimp only at hSw); go_simp; try with_reducible rfl)
          try go_frame
          refine wpAnyH_takeL (i := 9) (v := ?_) rfl (by kernel_rfl) (by kernel_rfl) (by kernel_rfl) (fun _ _ _ h => h) (Or.inl ⟨by rfl, ?_⟩) hHeld ?_
          rotate_left
          · (intro w hSw; (try dsimp only at hSw); go_simp; try with_reducible rfl)
          try go_frame
          refine wpAnyH_takeL (i := 10) (v := ?_) rfl (by kernel_rfl) (by kernel_rfl) (by kernel_rfl) (fun _ _ _ h => h) (Or.inl ⟨by rfl, ?_⟩) hHeld ?_
          rotate_left
          · (intro w hSw; (try dsimp only at hSw); go_simp; try with_reducible rfl)
          try go_frame
          refine wpAnyH_takeL (i := 11) (v := ?_) rfl (by kernel_rfl) (by kernel_rfl) (by kernel_rfl) (fun _ _ _ h => h) (Or.inl ⟨by rfl, ?_⟩) hHeld ?_
          rotate_left
          · (intro w hSw; (try dsimp only at hSw); go_simp; try with_reducible rfl)
          try go_frame
          refine wpAnyH_takeL (i := 12) (v := ?_) rfl (by kernel_rfl) (by kernel_rfl) (by kernel_rfl) (fun _ _ _ h => h) (Or.inl ⟨by rfl, ?_⟩) hHeld ?_
          rotate_left
          · (intro w hSw; (try dsimp only at hSw); go_simp; try with_reducible rfl)
          try go_frame
          refine wpAnyH_takeL (i := 13) (v := ?_) rfl (by kernel_rfl) (by kernel_rfl) (by kernel_rfl) (fun _ _ _ h => h) (Or.inl ⟨by rfl, ?_⟩) hHeld ?_
          rotate_left
          · (intro w hSw; (try dsimp only at hSw); go_simp; try with_reducible rfl)
          try go_frame
          refine wpAnyH_takeL (i := 14) (v := ?_) rfl (by kernel_rfl) (by kernel_rfl) (by kernel_rfl) (fun _ _ _ h => h) (Or.inl ⟨by rfl, ?_⟩) hHeld ?_
          rotate_left
          · (intro w hSw; (try dsimp only at hSw); go_simp; try with_reducible rfl)
          try go_frame
          refine wpAnyH_takeL (i := 15) (v := ?_) rfl (by kernel_rfl) (by kernel_rfl) (by kernel_rfl) (fun _ _ _ h => h) (Or.inl ⟨by rfl, ?_⟩) hHeld ?_
          rotate_left
          · (intro w hSw; (try dsimp only at hSw); go_simp; try with_reducible rfl)
          try go_frame
          refine wpAnyH_done (by kernel_rfl) ?_ _
          clear HMK hHeld k0
          obtain ⟨wd, hwd⟩ : ∃ wd, wd = wr.drew := ⟨_, rfl⟩
          rw [← hwd] at HBD HRW ed zd ⊢
          clear hwd HB HR e0 zb
          go_wp2_with (at_builtin; refine wpList_append_own_at _ rfl _ _ 60 rfl w.heap.size 9 i0 _ 1 16 Try.underlying60 hi hz0 hz1 hz2 rfl (by decide) _ _ _ rfl (HRW.out.alloc _) ⟨wd.heap.size, 0, none⟩ 1 1 [.string s'] rfl rfl (cellI_one _ _ _) (by simp [Value.oneCell']) (by unfold maxLen; omega) (by omega) (by have := HBD.out.size; simp; omega) ?_; intro v6 w6 hown6 hgrow6 hnil6 hat6; obtain ⟨g6, c6, rfl⟩ := sd_some hown6; have HB6 : Hid (Below w.heap.size w w6) := (HBD.out.alloc HBD.out.size _).grown hgrow6 (by have := HBD.out.size; simp; omega) (fun q hq => (HRW.out.lt q hq).1); have HR6 : Hid (w6.ownsRow w.heap.size 9 1 (.slice (some ⟨g6, 0, none⟩) (k + 1) c6) (k + 1) (xs ++ [.string s'])) := hown6; clear hown6 hgrow6 hnil6 hat6 HRW HBD)
          go_roundw
          case rel => exact ⟨i + 1, k + 1, g6, c6, _, by omega, by go_num, rfl, HR6.out, HB6.out, by rw [HKS.out, HKK.out]⟩
          case measure => simp [intOf] <;> omega
    · have hilI : ¬ (i : Int) < (n : Int) := by omega
      have HE : Hid (k = (Sq.parts keyEq L).length) := by
        have h := HKK.out
        unfold keysN at h
        rw [List.take_of_length_le (by rw [HLEN.out]; omega)] at h
        exact h
      go_wp2
      go_ret
      exact ⟨⟨_, cp, by rw [← HE.out]; rfl⟩, HB.out⟩

set_option maxRecDepth 100000 in
set_option maxHeartbeats 8000000 in
theorem walkFnSquashFew (a : Option Addr) (len cap : Nat) (w : World) (h : BytesAt w a len cap) :
    Calls Try.prog 10 #[.slice a len cap] w fun e w' => e = .returned (.bool true) ∧ Below w.heap.size w w' := by
  by_cases hl : len ≤ 1048576
  · have hlI : ¬ (1048576 : Int) < (len : Int) := by omega
    have CD := drawSq_any a len cap w h
    clear h
    go_enter Try.func10, Try.ntmps10
    go_wp2_with fail
    refine CD.mono ?_
    rintro e w1 ⟨g, n, c, L, gs, m, cs, S, b, rfl, hO, hN, hD, hm, hS, hgs, hb1⟩
    have HB1 : Hid (Below w.heap.size w w1) := hb1
    have HO1 : Hid (OwnE w1 w.heap.size g n c L) := hO
    have HN1 : Hid (OwnN w1 w.heap.size gs m cs S) := hN
    have HLN : Hid (L.length = n) := hO.len
    have HSN : Hid (S.length = m) := hN.len
    have hn15 : n ≤ 15 := by have h1 := hO.len; have h2 := hD.1; omega
    have CI : Hid (∀ (b' : Bool) (lo m' d' : Nat) (al : Option Addr) (S' : List Int) (w' : World), EntsAt w' (some ⟨g, 0, none⟩) n c L → IntsIn lo w' al m' d' S' → m' ≤ 1048576 → g < w'.heap.size → Calls Try.prog 15 #[.slice (some ⟨g, 0, none⟩) n c, .slice al m' d', .bool b'] w' fun e w'' => ∃ ar n' c', e = .returned (.slice ar n' c') ∧ OwnO w'' w'.heap.size ar n' c' (squashL L S' b') ∧ Below w'.heap.size w' w'') := fun b' lo m' d' al S' w' h1 h2 h3 h4 => callsIn_wide.1 (implSquash lo g 0 n c L _ _ _ S' b' w' h1 h2 (by omega) h3 h4)
    have CS := specSquash
    have HFL := squashL_len L S b
    have HFW : Hid (SmL L → (squashL L S b).length ≤ (Sq.parts keyEq L).length * (S.length + 1)) := fun hs => squash_few hs S b
    have HF0 : Hid (SmL L → (squashL L [] b).length ≤ (squashL L S b).length) := fun hs => squash_none_le hs S b
    have HF1 : Hid (SmL L → (squashL L S true).length ≤ (squashL L S false).length) := fun hs => squash_low hs S
    have HF2 : Hid (SmL L → LastPut (squashL L S true)) := fun hs => squash_puts hs S
    have HKL : Hid ((Sq.parts keyEq L).length ≤ n) := by have := parts_count keyEq L; rw [HLN.out] at this; exact this
    rw [HSN.out] at HFW
    have CS1 : Hid (∀ (lo : Nat) (w' : World), EntsAt w' (some ⟨g, 0, none⟩) n c L → IntsIn lo w' (some ⟨gs, 0, none⟩) m cs S → Calls Try.prog 12 #[.slice (some ⟨g, 0, none⟩) n c, .slice (some ⟨gs, 0, none⟩) m cs, .bool b] w' fun e w'' => ∃ g' n' c', e = .returned (.slice (some ⟨g', 0, none⟩) n' c') ∧ OwnE w'' w'.heap.size g' n' c' (squashL L S b) ∧ Below w'.heap.size w' w'') := fun lo w' h1 h2 => specSquash lo _ _ _ L _ _ _ S b w' h1 h2 (by omega)
    clear hb1 hO hN CD hD hS hl hlI CS
    go_wp2_with fail
    refine (CI.out b _ m cs _ S _ HO1.out.entsAt HN1.out.ints (by omega) HO1.out.lt.2).mono ?_
    rintro e w2 ⟨ag, ng, cg, rfl, hG2, hb2⟩
    obtain ⟨F, hF⟩ : ∃ F, squashL L S b = F := ⟨_, rfl⟩
    rw [hF] at hG2 HFL HFW HF0 CS1
    have T2 : Hid (FqSt w w2 g n c gs m cs ag ng cg L S F) := ⟨HB1.out.trans (hb2.mono HB1.out.size), HO1.out.below hb2, HN1.out.below hb2, hG2.mono HB1.out.size⟩
    have HGL : Hid (F.length = ng) := hG2.len
    have hng : ng ≤ n := by have h1 := hG2.len; have h2 := HLN.out; omega
    clear hG2 hb2 HB1 HO1 HN1 HFL hF
    go_wp2_with fail
    refine (CS1.out _ _ T2.out.ol.entsAt T2.out.ot.ints).mono ?_
    rintro e w3 ⟨gw, nw, cw, rfl, hW3, hb3⟩
    have T3 : Hid (FqSt w w3 g n c gs m cs ag ng cg L S F) := T2.out.below hb3
    have HW3 : Hid (EntsAt w3 (some ⟨gw, 0, none⟩) nw cw F) := hW3.entsAt
    clear T2 hW3 hb3 CS1
    go_wp2_with fail
    refine (wpEnts_any _ _ _ _ _ _ F F _ T3.out.og.entsAt HW3.out).mono ?_
    rintro e w4 ⟨rfl, hb4⟩
    have T4 : Hid (FqSt w w4 g n c gs m cs ag ng cg L S F) := T3.out.below hb4
    have hFF : decide (F = F) = true := by simp
    rw [hFF]
    clear T3 HW3 hb4 hFF
    go_wp2
    go_loopw [7] (fun iv wr => ∃ i : Nat, i ≤ n ∧ iv = .int .i64 i ∧ FqSt w wr g n c gs m cs ag ng cg L S F ∧ (∀ j e, j < i → L[j]? = some e → -1000 ≤ e.2.2.2.2 ∧ e.2.2.2.2 ≤ 1000)) (fun iv _ => n - (intOf iv).toNat)
    case atStart => exact ⟨0, Nat.zero_le _, rfl, T4.out, fun j e h => absurd h (Nat.not_lt_zero _)⟩
    case round =>
      clear T4
      obtain ⟨i, hin, rfl, hT, hsm⟩ := hrel
      have HT : Hid (FqSt w wr g n c gs m cs ag ng cg L S F) := hT
      have HSM : Hid (∀ j e, j < i → L[j]? = some e → -1000 ≤ e.2.2.2.2 ∧ e.2.2.2.2 ≤ 1000) := hsm
      clear hT hsm
      by_cases hil : i < n
      · have hilI : (i : Int) < (n : Int) := by omega
        have zg := HT.out.ol.lt.2
        obtain ⟨s, q, d, t, mm, hx, _, _, _, _, _, g4⟩ := HT.out.ol.entsAt.ent (Below.refl _ wr) zg i hil
        simp only [Nat.zero_add] at g4
        have HX : Hid (L[i]? = some (s, q, d, t, mm)) := hx
        clear hx
        by_cases h1 : 1000 < mm
        · go_wp2
          go_ret
          exact ⟨rfl, HT.out.all⟩
        · have h1D : decide (1000 < mm) = false := decide_eq_false h1
          have h1N : mm ≤ 1000 := by omega
          by_cases h2 : mm < -1000
          · go_wp2
            go_ret
            exact ⟨rfl, HT.out.all⟩
          · have h2D : decide (mm < -1000) = false := decide_eq_false h2
            go_wp2
            go_roundw
            case rel => exact ⟨i + 1, by omega, by go_num, HT.out, fun j e hj he => by
              by_cases hji : j < i
              · exact HSM.out j e hji he
              · have : j = i := by omega
                subst this
                rw [HX.out] at he
                cases he
                exact ⟨by simp only; omega, by simp only; omega⟩⟩
            case measure => simp [intOf] <;> omega
      · have hilI : ¬ (i : Int) < (n : Int) := by omega
        have HSL : Hid (SmL L) := ⟨by have := HLN.out; omega, fun e he => by
          obtain ⟨j, hj⟩ := List.getElem?_of_mem he
          have hjl := (List.getElem?_eq_some_iff.1 hj).1
          have := HLN.out
          exact HSM.out j e (by omega) hj⟩
        have G0 := HF0.out HSL.out
        have G1 := HF1.out HSL.out
        have HG2 : Hid (LastPut (squashL L S true)) := HF2.out HSL.out
        have G3 := HFW.out HSL.out
        clear HSM HF0 HF1 HF2 HFW HSL
        go_wp2_with fail
        refine (CI.out true _ m cs _ S _ HT.out.ol.entsAt HT.out.ot.ints (by omega) HT.out.ol.lt.2).mono ?_
        rintro e w5 ⟨ao, no, co, rfl, hO5, hb5⟩
        have T5 : Hid (FqSt w w5 g n c gs m cs ag ng cg L S F) := HT.out.below hb5
        obtain ⟨F1, hF1⟩ : ∃ F1, squashL L S true = F1 := ⟨_, rfl⟩
        rw [hF1] at hO5 HG2 G1
        have HO5 : Hid (EntsAt w5 ao no co F1) := hO5.entsAt
        have HL5 : Hid (F1.length = no) := hO5.len
        have hno : no ≤ 1000 := by have h1 := hO5.len; have h2 := squashL_len L S true; rw [hF1] at h2; have := HLN.out; omega
        obtain ⟨W5, hW5⟩ : ∃ W5, W5 = w5 := ⟨_, rfl⟩
        subst hW5
        clear hO5 hb5 HT hF1
        go_wp2
        go_loopw [9] (fun iv wr => ∃ i : Nat, i ≤ no ∧ iv = .int .i64 i ∧ Below W5.heap.size W5 wr) (fun iv _ => no - (intOf iv).toNat)
        case atStart => exact ⟨0, Nat.zero_le _, rfl, Below.refl _ _⟩
        case round =>
          clear hilI hil hin
          obtain ⟨i, hin, rfl, hB⟩ := hrel
          have HB : Hid (Below W5.heap.size W5 wr) := hB
          clear hB
          by_cases hil : i < no
          · have hilI : (i : Int) < (no : Int) := by omega
            obtain ⟨b1, o1, rfl, hbb1⟩ := HO5.out.form (by omega)
            obtain ⟨s, q, d, t, mm, hx, _, g0, _, g2, _, _⟩ := HO5.out.ent HB.out hbb1 i hil
            have zb : b1 < wr.heap.size := Nat.lt_of_lt_of_le hbb1 HB.out.size
            have k0 : Below wr.heap.size wr wr.drew := (Below.refl _ wr).drew
            have HB2 : Hid (Below W5.heap.size W5 wr.drew) := HB.out.trans (k0.mono HB.out.size)
            obtain ⟨nx, hnx⟩ : ∃ nx, nx = i + 1 := ⟨_, rfl⟩
            have HNX : Hid (nx = i + 1) := hnx
            have wnx : IntKind.i64.wrap ((i : Int) + 1) = (nx : Int) := by
              have e : (i : Int) + 1 = (nx : Int) := by omega
              rw [e, IntWalk.i64_left]; unfold wrap64; omega
            by_cases hlast : nx = no
            · have HD : Hid (d = 1) := by
                have := HG2.out i _ hx (.inl (List.getElem?_eq_none (by rw [HL5.out]; omega)))
                exact this
              have hd1 := HD.out
              subst hd1
              have hlI : (nx : Int) = (no : Int) := by omega
              have hlB : ((nx : Int) == (no : Int)) = true := by simp; omega
              have HMK : Hid (∀ w', Below wr.heap.size wr w' → (w'.cell? ⟨b1, o1 + i * 5, none⟩ = some (.string s) ∧ w'.cell? ⟨b1, o1 + i * 5 + 2, none⟩ = some (.int .i64 1) ∧ b1 < w'.heap.size)) := fun w' kk => ⟨cell_later kk g0, cell_later kk g2, Nat.lt_of_lt_of_le zb kk.size⟩
              have HLS : Hid (nx = no) := hlast
              clear hx g0 g2 hnx hlast
              go_wp2_with fail
              refine wp_region_held_drew (S := (fun w' => w'.cell? ⟨b1, o1 + i * 5, none⟩ = some (.string s) ∧ w'.cell? ⟨b1, o1 + i * 5 + 2, none⟩ = some (.int .i64 1) ∧ b1 < w'.heap.size)) (by kernel_rfl) (HMK.out _ k0) (fun hHeld => ?_)
              refine wpAnyH_takeL (i := 0) (v := ?_) rfl (by kernel_rfl) (by kernel_rfl) (by kernel_rfl) (fun _ _ _ h => h) (Or.inl ⟨by rfl, ?_⟩) hHeld ?_
              rotate_left
              · (intro w hSw; (try dsimp only at hSw); go_simp; try with_reducible rfl)
              try go_frame
              refine wpAnyH_takeL (i := 1) (v := ?_) rfl (by kernel_rfl) (by kernel_rfl) (by kernel_rfl) (fun _ _ _ h => h) (Or.inl ⟨by rfl, ?_⟩) hHeld ?_
              rotate_left
              · (intro w hSw; (try dsimp only at hSw); go_simp; try with_reducible rfl)
              try go_frame
              refine wpAnyH_takeL (i := 2) (v := ?_) rfl (by kernel_rfl) (by kernel_rfl) (by kernel_rfl) (fun _ _ _ h => h) (Or.inl ⟨by rfl, ?_⟩) hHeld ?_
              rotate_left
              · (intro w hSw; (try dsimp only at hSw); go_simp; try with_reducible rfl)
              try go_frame
              refine wpAnyH_takeL (i := 3) (v := ?_) rfl (by kernel_rfl) (by kernel_rfl) (by kernel_rfl) (fun _ _ _ h => h) (Or.inl ⟨by rfl, ?_⟩) hHeld ?_
              rotate_left
              · (intro w hSw; (try dsimp only at hSw); go_simp; try with_reducible rfl)
              try go_frame
              refine wpAnyH_takeL (i := 4) (v := ?_) rfl (by kernel_rfl) (by kernel_rfl) (by kernel_rfl) (fun _ _ _ h => h) (Or.inl ⟨by rfl, ?_⟩) hHeld ?_
              rotate_left
              · (intro w hSw; (try dsimp only at hSw); go_simp; try with_reducible rfl)
              try go_frame
              refine wpAnyH_takeL (i := 5) (v := ?_) rfl (by kernel_rfl) (by kernel_rfl) (by kernel_rfl) (fun _ _ _ h => h) (Or.inl ⟨by rfl, ?_⟩) hHeld ?_
              rotate_left
              · (intro w hSw; (try dsimp only at hSw); go_simp; try with_reducible rfl)
              try go_frame
              refine wpAnyH_takeL (i := 6) (v := undef) rfl (by kernel_rfl) (by kernel_rfl) (by kernel_rfl) (fun _ _ _ h => h) (Or.inr ⟨by rfl, rfl⟩) hHeld ?_
              try go_frame
              refine wpAnyH_takeL (i := 7) (v := undef) rfl (by kernel_rfl) (by kernel_rfl) (by kernel_rfl) (fun _ _ _ h => h) (Or.inr ⟨by rfl, rfl⟩) hHeld ?_
              try go_frame
              refine wpAnyH_takeL (i := 8) (v := undef) rfl (by kernel_rfl) (by kernel_rfl) (by kernel_rfl) (fun _ _ _ h => h) (Or.inr ⟨by rfl, rfl⟩) hHeld ?_
              try go_frame
              refine wpAnyH_takeL (i := 9) (v := undef) rfl (by kernel_rfl) (by kernel_rfl) (by kernel_rfl) (fun _ _ _ h => h) (Or.inr ⟨by rfl, rfl⟩) hHeld ?_
              try go_frame
              refine wpAnyH_takeL (i := 10) (v := undef) rfl (by kernel_rfl) (by kernel_rfl) (by kernel_rfl) (fun _ _ _ h => h) (Or.inr ⟨by rfl, rfl⟩) hHeld ?_
              try go_frame
              refine wpAnyH_takeL (i := 11) (v := undef) rfl (by kernel_rfl) (by kernel_rfl) (by kernel_rfl) (fun _ _ _ h => h) (Or.inr ⟨by rfl, rfl⟩) hHeld ?_
              try go_frame
              refine wpAnyH_takeL (i := 12) (v := undef) rfl (by kernel_rfl) (by kernel_rfl) (by kernel_rfl) (fun _ _ _ h => h) (Or.inr ⟨by rfl, rfl⟩) hHeld ?_
              try go_frame
              refine wpAnyH_takeL (i := 13) (v := undef) rfl (by kernel_rfl) (by kernel_rfl) (by kernel_rfl) (fun _ _ _ h => h) (Or.inr ⟨by rfl, rfl⟩) hHeld ?_
              try go_frame
              refine wpAnyH_takeL (i := 14) (v := undef) rfl (by kernel_rfl) (by kernel_rfl) (by kernel_rfl) (fun _ _ _ h => h) (Or.inr ⟨by rfl, rfl⟩) hHeld ?_
              try go_frame
              refine wpAnyH_takeL (i := 15) (v := undef) rfl (by kernel_rfl) (by kernel_rfl) (by kernel_rfl) (fun _ _ _ h => h) (Or.inr ⟨by rfl, rfl⟩) hHeld ?_
              try go_frame
              refine wpAnyH_takeL (i := 16) (v := undef) rfl (by kernel_rfl) (by kernel_rfl) (by kernel_rfl) (fun _ _ _ h => h) (Or.inr ⟨by rfl, rfl⟩) hHeld ?_
              try go_frame
              refine wpAnyH_takeL (i := 17) (v := undef) rfl (by kernel_rfl) (by kernel_rfl) (by kernel_rfl) (fun _ _ _ h => h) (Or.inr ⟨by rfl, rfl⟩) hHeld ?_
              try go_frame
              refine wpAnyH_takeL (i := 18) (v := ?_) rfl (by kernel_rfl) (by kernel_rfl) (by kernel_rfl) (fun _ _ _ h => h) (Or.inl ⟨by rfl, ?_⟩) hHeld ?_
              rotate_left
              · (intro w hSw; (try dsimp only at hSw); go_simp; try with_reducible rfl)
              try go_frame
              refine wpAnyH_takeL (i := 19) (v := ?_) rfl (by kernel_rfl) (by kernel_rfl) (by kernel_rfl) (fun _ _ _ h => h) (Or.inl ⟨by rfl, ?_⟩) hHeld ?_
              rotate_left
              · (intro w hSw; (try dsimp only at hSw); go_simp; try with_reducible rfl)
              try go_frame
              refine wpAnyH_takeL (i := 20) (v := ?_) rfl (by kernel_rfl) (by kernel_rfl) (by kernel_rfl) (fun _ _ _ h => h) (Or.inl ⟨by rfl, ?_⟩) hHeld ?_
              rotate_left
              · (intro w hSw; (try dsimp only at hSw); go_simp; try with_reducible rfl)
              try go_frame
              refine wpAnyH_takeL (i := 21) (v := ?_) rfl (by kernel_rfl) (by kernel_rfl) (by kernel_rfl) (fun _ _ _ h => h) (Or.inl ⟨by rfl, ?_⟩) hHeld ?_
              rotate_left
              · (intro w hSw; (try dsimp only at hSw); go_simp; try with_reducible rfl)
              try go_frame
              refine wpAnyH_takeL (i := 22) (v := ?_) rfl (by kernel_rfl) (by kernel_rfl) (by kernel_rfl) (fun _ _ _ h => h) (Or.inl ⟨by rfl, ?_⟩) hHeld ?_
              rotate_left
              · (intro w hSw; (try dsimp only at hSw); go_simp; try with_reducible rfl)
              try go_frame
              refine wpAnyH_takeL (i := 23) (v := ?_) rfl (by kernel_rfl) (by kernel_rfl) (by kernel_rfl) (fun _ _ _ h => h) (Or.inl ⟨by rfl, ?_⟩) hHeld ?_
              rotate_left
              · (intro w hSw; (try dsimp only at hSw); go_simp; try with_reducible rfl)
              try go_frame
              refine wpAnyH_takeL (i := 24) (v := ?_) rfl (by kernel_rfl) (by kernel_rfl) (by kernel_rfl) (fun _ _ _ h => h) (Or.inl ⟨by rfl, ?_⟩) hHeld ?_
              rotate_left
              · (intro w hSw; (try dsimp only at hSw); go_simp; try with_reducible rfl)
              try go_frame
              refine wpAnyH_takeL (i := 25) (v := ?_) rfl (by kernel_rfl) (by kernel_rfl) (by kernel_rfl) (fun _ _ _ h => h) (Or.inl ⟨by rfl, ?_⟩) hHeld ?_
              rotate_left
              · (intro w hSw; (try dsimp only at hSw); go_simp; try with_reducible rfl)
              try go_frame
              refine wpAnyH_takeL (i := 26) (v := ?_) rfl (by kernel_rfl) (by kernel_rfl) (by kernel_rfl) (fun _ _ _ h => h) (Or.inl ⟨by rfl, ?_⟩) hHeld ?_
              rotate_left
              · (intro w hSw; (try dsimp only at hSw); go_simp; try with_reducible rfl)
              try go_frame
              refine wpAnyH_done (by kernel_rfl) ?_ _
              clear HMK hHeld k0 HB
              go_wp2
              go_roundw
              case rel => exact ⟨no, by omega, rfl, HB2.out⟩
              case measure => have := HNX.out; have := HLS.out; simp [intOf] <;> omega
            · have hnl : nx < no := by omega
              have hlI : ¬ (nx : Int) = (no : Int) := by omega
              have hlB : ((nx : Int) == (no : Int)) = false := by simp; omega
              have hnI : (nx : Int) < (no : Int) := by omega
              obtain ⟨s', q', d', t', mm', hy, _, e0, _⟩ := HO5.out.ent HB.out hbb1 nx hnl
              have HMK : Hid (∀ w', Below wr.heap.size wr w' → (w'.cell? ⟨b1, o1 + i * 5, none⟩ = some (.string s) ∧ w'.cell? ⟨b1, o1 + i * 5 + 2, none⟩ = some (.int .i64 d) ∧ w'.cell? ⟨b1, o1 + nx * 5, none⟩ = some (.string s') ∧ b1 < w'.heap.size)) := fun w' kk => ⟨cell_later kk g0, cell_later kk g2, cell_later kk e0, Nat.lt_of_lt_of_le zb kk.size⟩
              by_cases hss : s' = s
              · subst hss
                have e1 : (s'.toList == s'.toList) = true := by simp
                clear hx hy g0 g2 e0 hnx hlast
                go_wp2_with fail
                refine wp_region_held_drew (S := (fun w' => w'.cell? ⟨b1, o1 + i * 5, none⟩ = some (.string s') ∧ w'.cell? ⟨b1, o1 + i * 5 + 2, none⟩ = some (.int .i64 d) ∧ w'.cell? ⟨b1, o1 + nx * 5, none⟩ = some (.string s') ∧ b1 < w'.heap.size)) (by kernel_rfl) (HMK.out _ k0) (fun hHeld => ?_)
                refine wpAnyH_takeL (i := 0) (v := ?_) rfl (by kernel_rfl) (by kernel_rfl) (by kernel_rfl) (fun _ _ _ h => h) (Or.inl ⟨by rfl, ?_⟩) hHeld ?_
                rotate_left
                · (intro w hSw; (try dsimp only at hSw); go_simp; try with_reducible rfl)
                try go_frame
                refine wpAnyH_takeL (i := 1) (v := ?_) rfl (by kernel_rfl) (by kernel_rfl) (by kernel_rfl) (fun _ _ _ h => h) (Or.inl ⟨by rfl, ?_⟩) hHeld ?_
                rotate_left
                · (intro w hSw; (try dsimp only at hSw); go_simp; try with_reducible rfl)
                try go_frame
                refine wpAnyH_takeL (i := 2) (v := ?_) rfl (by kernel_rfl) (by kernel_rfl) (by kernel_rfl) (fun _ _ _ h => h) (Or.inl ⟨by rfl, ?_⟩) hHeld ?_
                rotate_left
                · (intro w hSw; (try dsimp only at hSw); go_simp; try with_reducible rfl)
                try go_frame
                refine wpAnyH_takeL (i := 3) (v := ?_) rfl (by kernel_rfl) (by kernel_rfl) (by kernel_rfl) (fun _ _ _ h => h) (Or.inl ⟨by rfl, ?_⟩) hHeld ?_
                rotate_left
                · (intro w hSw; (try dsimp only at hSw); go_simp; try with_reducible rfl)
                try go_frame
                refine wpAnyH_takeL (i := 4) (v := ?_) rfl (by kernel_rfl) (by kernel_rfl) (by kernel_rfl) (fun _ _ _ h => h) (Or.inl ⟨by rfl, ?_⟩) hHeld ?_
                rotate_left
                · (intro w hSw; (try dsimp only at hSw); go_simp; try with_reducible rfl)
                try go_frame
                refine wpAnyH_takeL (i := 5) (v := ?_) rfl (by kernel_rfl) (by kernel_rfl) (by kernel_rfl) (fun _ _ _ h => h) (Or.inl ⟨by rfl, ?_⟩) hHeld ?_
                rotate_left
                · (intro w hSw; (try dsimp only at hSw); go_simp; try with_reducible rfl)
                try go_frame
                refine wpAnyH_takeL (i := 6) (v := ?_) rfl (by kernel_rfl) (by kernel_rfl) (by kernel_rfl) (fun _ _ _ h => h) (Or.inl ⟨by rfl, ?_⟩) hHeld ?_
                rotate_left
                · (intro w hSw; (try dsimp only at hSw); go_simp; try with_reducible rfl)
                try go_frame
                refine wpAnyH_takeL (i := 7) (v := ?_) rfl (by kernel_rfl) (by kernel_rfl) (by kernel_rfl) (fun _ _ _ h => h) (Or.inl ⟨by rfl, ?_⟩) hHeld ?_
                rotate_left
                · (intro w hSw; (try dsimp only at hSw); go_simp; try with_reducible rfl)
                try go_frame
                refine wpAnyH_takeL (i := 8) (v := ?_) rfl (by kernel_rfl) (by kernel_rfl) (by kernel_rfl) (fun _ _ _ h => h) (Or.inl ⟨by rfl, ?_⟩) hHeld ?_
                rotate_left
                · (intro w hSw; (try dsimp only at hSw); go_simp; try with_reducible rfl)
                try go_frame
                refine wpAnyH_takeL (i := 9) (v := ?_) rfl (by kernel_rfl) (by kernel_rfl) (by kernel_rfl) (fun _ _ _ h => h) (Or.inl ⟨by rfl, ?_⟩) hHeld ?_
                rotate_left
                · (intro w hSw; (try dsimp only at hSw); go_simp; try with_reducible rfl)
                try go_frame
                refine wpAnyH_takeL (i := 10) (v := ?_) rfl (by kernel_rfl) (by kernel_rfl) (by kernel_rfl) (fun _ _ _ h => h) (Or.inl ⟨by rfl, ?_⟩) hHeld ?_
                rotate_left
                · (intro w hSw; (try dsimp only at hSw); go_simp; try with_reducible rfl)
                try go_frame
                refine wpAnyH_takeL (i := 11) (v := ?_) rfl (by kernel_rfl) (by kernel_rfl) (by kernel_rfl) (fun _ _ _ h => h) (Or.inl ⟨by rfl, ?_⟩) hHeld ?_
                rotate_left
                · (intro w hSw; (try dsimp only at hSw); go_simp; try with_reducible rfl)
                try go_frame
                refine wpAnyH_takeL (i := 12) (v := ?_) rfl (by kernel_rfl) (by kernel_rfl) (by kernel_rfl) (fun _ _ _ h => h) (Or.inl ⟨by rfl, ?_⟩) hHeld ?_
                rotate_left
                · (intro w hSw; (try dsimp only at hSw); go_simp; try with_reducible rfl)
                try go_frame
                refine wpAnyH_takeL (i := 13) (v := ?_) rfl (by kernel_rfl) (by kernel_rfl) (by kernel_rfl) (fun _ _ _ h => h) (Or.inl ⟨by rfl, ?_⟩) hHeld ?_
                rotate_left
                · (intro w hSw; (try dsimp only at hSw); go_simp; try with_reducible rfl)
                try go_frame
                refine wpAnyH_takeL (i := 14) (v := ?_) rfl (by kernel_rfl) (by kernel_rfl) (by kernel_rfl) (fun _ _ _ h => h) (Or.inl ⟨by rfl, ?_⟩) hHeld ?_
                rotate_left
                · (intro w hSw; (try dsimp only at hSw); go_simp; try with_reducible rfl)
                try go_frame
                refine wpAnyH_takeL (i := 15) (v := ?_) rfl (by kernel_rfl) (by kernel_rfl) (by kernel_rfl) (fun _ _ _ h => h) (Or.inl ⟨by rfl, ?_⟩) hHeld ?_
                rotate_left
                · (intro w hSw; (try dsimp only at hSw); go_simp; try with_reducible rfl)
                try go_frame
                refine wpAnyH_takeL (i := 16) (v := ?_) rfl (by kernel_rfl) (by kernel_rfl) (by kernel_rfl) (fun _ _ _ h => h) (Or.inl ⟨by rfl, ?_⟩) hHeld ?_
                rotate_left
                · (intro w hSw; (try dsimp only at hSw); go_simp; try with_reducible rfl)
                try go_frame
                refine wpAnyH_takeL (i := 17) (v := ?_) rfl (by kernel_rfl) (by kernel_rfl) (by kernel_rfl) (fun _ _ _ h => h) (Or.inl ⟨by rfl, ?_⟩) hHeld ?_
                rotate_left
                · (intro w hSw; (try dsimp only at hSw); go_simp; try with_reducible rfl)
                try go_frame
                refine wpAnyH_takeL (i := 18) (v := ?_) rfl (by kernel_rfl) (by kernel_rfl) (by kernel_rfl) (fun _ _ _ h => h) (Or.inl ⟨by rfl, ?_⟩) hHeld ?_
                rotate_left
                · (intro w hSw; (try dsimp only at hSw); go_simp; try with_reducible rfl)
                try go_frame
                refine wpAnyH_takeL (i := 19) (v := ?_) rfl (by kernel_rfl) (by kernel_rfl) (by kernel_rfl) (fun _ _ _ h => h) (Or.inl ⟨by rfl, ?_⟩) hHeld ?_
                rotate_left
                · (intro w hSw; (try dsimp only at hSw); go_simp; try with_reducible rfl)
                try go_frame
                refine wpAnyH_takeL (i := 20) (v := undef) rfl (by kernel_rfl) (by kernel_rfl) (by kernel_rfl) (fun _ _ _ h => h) (Or.inr ⟨by rfl, rfl⟩) hHeld ?_
                try go_frame
                refine wpAnyH_takeL (i := 21) (v := undef) rfl (by kernel_rfl) (by kernel_rfl) (by kernel_rfl) (fun _ _ _ h => h) (Or.inr ⟨by rfl, rfl⟩) hHeld ?_
                try go_frame
                refine wpAnyH_takeL (i := 22) (v := undef) rfl (by kernel_rfl) (by kernel_rfl) (by kernel_rfl) (fun _ _ _ h => h) (Or.inr ⟨by rfl, rfl⟩) hHeld ?_
                try go_frame
                refine wpAnyH_takeL (i := 23) (v := undef) rfl (by kernel_rfl) (by kernel_rfl) (by kernel_rfl) (fun _ _ _ h => h) (Or.inr ⟨by rfl, rfl⟩) hHeld ?_
                try go_frame
                refine wpAnyH_takeL (i := 24) (v := undef) rfl (by kernel_rfl) (by kernel_rfl) (by kernel_rfl) (fun _ _ _ h => h) (Or.inr ⟨by rfl, rfl⟩) hHeld ?_
                try go_frame
                refine wpAnyH_takeL (i := 25) (v := undef) rfl (by kernel_rfl) (by kernel_rfl) (by kernel_rfl) (fun _ _ _ h => h) (Or.inr ⟨by rfl, rfl⟩) hHeld ?_
                try go_frame
                refine wpAnyH_takeL (i := 26) (v := ?_) rfl (by kernel_rfl) (by kernel_rfl) (by kernel_rfl) (fun _ _ _ h => h) (Or.inl ⟨by rfl, ?_⟩) hHeld ?_
                rotate_left
                · (intro w hSw; (try dsimp only at hSw); go_simp; try with_reducible rfl)
                try go_frame
                refine wpAnyH_done (by kernel_rfl) ?_ _
                clear HMK hHeld k0 HB
                go_wp2
                go_roundw
                case rel => exact ⟨nx, by omega, rfl, HB2.out⟩
                case measure => have := HNX.out; simp [intOf] <;> omega
              · have HD : Hid (d = 1) := by
                  have := HG2.out i _ hx (.inr ⟨_, by rw [← hnx]; exact hy, hss⟩)
                  exact this
                have hd1 := HD.out
                subst hd1
                have hne : ¬ s'.toList = s.toList := by
                  rw [ByteArray.toList_eq, ByteArray.toList_eq]
                  intro h
                  exact hss (ByteArray.ext (Array.toList_inj.1 h))
                have hne' : (s'.toList == s.toList) = false := by simpa using hne
                clear hx hy g0 g2 e0 hnx hlast hss
                go_wp2_with fail
                refine wp_region_held_drew (S := (fun w' => w'.cell? ⟨b1, o1 + i * 5, none⟩ = some (.string s) ∧ w'.cell? ⟨b1, o1 + i * 5 + 2, none⟩ = some (.int .i64 1) ∧ w'.cell? ⟨b1, o1 + nx * 5, none⟩ = some (.string s') ∧ b1 < w'.heap.size)) (by kernel_rfl) (HMK.out _ k0) (fun hHeld => ?_)
                refine wpAnyH_takeL (i := 0) (v := ?_) rfl (by kernel_rfl) (by kernel_rfl) (by kernel_rfl) (fun _ _ _ h => h) (Or.inl ⟨by rfl, ?_⟩) hHeld ?_
                rotate_left
                · (intro w hSw; (try dsimp only at hSw); go_simp; try with_reducible rfl)
                try go_frame
                refine wpAnyH_takeL (i := 1) (v := ?_) rfl (by kernel_rfl) (by kernel_rfl) (by kernel_rfl) (fun _ _ _ h => h) (Or.inl ⟨by rfl, ?_⟩) hHeld ?_
                rotate_left
                · (intro w hSw; (try dsimp only at hSw); go_simp; try with_reducible rfl)
                try go_frame
                refine wpAnyH_takeL (i := 2) (v := ?_) rfl (by kernel_rfl) (by kernel_rfl) (by kernel_rfl) (fun _ _ _ h => h) (Or.inl ⟨by rfl, ?_⟩) hHeld ?_
                rotate_left
                · (intro w hSw; (try dsimp only at hSw); go_simp; try with_reducible rfl)
                try go_frame
                refine wpAnyH_takeL (i := 3) (v := ?_) rfl (by kernel_rfl) (by kernel_rfl) (by kernel_rfl) (fun _ _ _ h => h) (Or.inl ⟨by rfl, ?_⟩) hHeld ?_
                rotate_left
                · (intro w hSw; (try dsimp only at hSw); go_simp; try with_reducible rfl)
                try go_frame
                refine wpAnyH_takeL (i := 4) (v := ?_) rfl (by kernel_rfl) (by kernel_rfl) (by kernel_rfl) (fun _ _ _ h => h) (Or.inl ⟨by rfl, ?_⟩) hHeld ?_
                rotate_left
                · (intro w hSw; (try dsimp only at hSw); go_simp; try with_reducible rfl)
                try go_frame
                refine wpAnyH_takeL (i := 5) (v := ?_) rfl (by kernel_rfl) (by kernel_rfl) (by kernel_rfl) (fun _ _ _ h => h) (Or.inl ⟨by rfl, ?_⟩) hHeld ?_
                rotate_left
                · (intro w hSw; (try dsimp only at hSw); go_simp; try with_reducible rfl)
                try go_frame
                refine wpAnyH_takeL (i := 6) (v := ?_) rfl (by kernel_rfl) (by kernel_rfl) (by kernel_rfl) (fun _ _ _ h => h) (Or.inl ⟨by rfl, ?_⟩) hHeld ?_
                rotate_left
                · (intro w hSw; (try dsimp only at hSw); go_simp; try with_reducible rfl)
                try go_frame
                refine wpAnyH_takeL (i := 7) (v := ?_) rfl (by kernel_rfl) (by kernel_rfl) (by kernel_rfl) (fun _ _ _ h => h) (Or.inl ⟨by rfl, ?_⟩) hHeld ?_
                rotate_left
                · (intro w hSw; (try dsimp only at hSw); go_simp; try with_reducible rfl)
                try go_frame
                refine wpAnyH_takeL (i := 8) (v := ?_) rfl (by kernel_rfl) (by kernel_rfl) (by kernel_rfl) (fun _ _ _ h => h) (Or.inl ⟨by rfl, ?_⟩) hHeld ?_
                rotate_left
                · (intro w hSw; (try dsimp only at hSw); go_simp; try with_reducible rfl)
                try go_frame
                refine wpAnyH_takeL (i := 9) (v := ?_) rfl (by kernel_rfl) (by kernel_rfl) (by kernel_rfl) (fun _ _ _ h => h) (Or.inl ⟨by rfl, ?_⟩) hHeld ?_
                rotate_left
                · (intro w hSw; (try dsimp only at hSw); go_simp; try with_reducible rfl)
                try go_frame
                refine wpAnyH_takeL (i := 10) (v := ?_) rfl (by kernel_rfl) (by kernel_rfl) (by kernel_rfl) (fun _ _ _ h => h) (Or.inl ⟨by rfl, ?_⟩) hHeld ?_
                rotate_left
                · (intro w hSw; (try dsimp only at hSw); go_simp; try with_reducible rfl)
                try go_frame
                refine wpAnyH_takeL (i := 11) (v := ?_) rfl (by kernel_rfl) (by kernel_rfl) (by kernel_rfl) (fun _ _ _ h => h) (Or.inl ⟨by rfl, ?_⟩) hHeld ?_
                rotate_left
                · (intro w hSw; (try dsimp only at hSw); go_simp; try with_reducible rfl)
                try go_frame
                refine wpAnyH_takeL (i := 12) (v := ?_) rfl (by kernel_rfl) (by kernel_rfl) (by kernel_rfl) (fun _ _ _ h => h) (Or.inl ⟨by rfl, ?_⟩) hHeld ?_
                rotate_left
                · (intro w hSw; (try dsimp only at hSw); go_simp; try with_reducible rfl)
                try go_frame
                refine wpAnyH_takeL (i := 13) (v := ?_) rfl (by kernel_rfl) (by kernel_rfl) (by kernel_rfl) (fun _ _ _ h => h) (Or.inl ⟨by rfl, ?_⟩) hHeld ?_
                rotate_left
                · (intro w hSw; (try dsimp only at hSw); go_simp; try with_reducible rfl)
                try go_frame
                refine wpAnyH_takeL (i := 14) (v := ?_) rfl (by kernel_rfl) (by kernel_rfl) (by kernel_rfl) (fun _ _ _ h => h) (Or.inl ⟨by rfl, ?_⟩) hHeld ?_
                rotate_left
                · (intro w hSw; (try dsimp only at hSw); go_simp; try with_reducible rfl)
                try go_frame
                refine wpAnyH_takeL (i := 15) (v := ?_) rfl (by kernel_rfl) (by kernel_rfl) (by kernel_rfl) (fun _ _ _ h => h) (Or.inl ⟨by rfl, ?_⟩) hHeld ?_
                rotate_left
                · (intro w hSw; (try dsimp only at hSw); go_simp; try with_reducible rfl)
                try go_frame
                refine wpAnyH_takeL (i := 16) (v := ?_) rfl (by kernel_rfl) (by kernel_rfl) (by kernel_rfl) (fun _ _ _ h => h) (Or.inl ⟨by rfl, ?_⟩) hHeld ?_
                rotate_left
                · (intro w hSw; (try dsimp only at hSw); go_simp; try with_reducible rfl)
                try go_frame
                refine wpAnyH_takeL (i := 17) (v := ?_) rfl (by kernel_rfl) (by kernel_rfl) (by kernel_rfl) (fun _ _ _ h => h) (Or.inl ⟨by rfl, ?_⟩) hHeld ?_
                rotate_left
                · (intro w hSw; (try dsimp only at hSw); go_simp; try with_reducible rfl)
                try go_frame
                refine wpAnyH_takeL (i := 18) (v := ?_) rfl (by kernel_rfl) (by kernel_rfl) (by kernel_rfl) (fun _ _ _ h => h) (Or.inl ⟨by rfl, ?_⟩) hHeld ?_
                rotate_left
                · (intro w hSw; (try dsimp only at hSw); go_simp; try with_reducible rfl)
                try go_frame
                refine wpAnyH_takeL (i := 19) (v := ?_) rfl (by kernel_rfl) (by kernel_rfl) (by kernel_rfl) (fun _ _ _ h => h) (Or.inl ⟨by rfl, ?_⟩) hHeld ?_
                rotate_left
                · (intro w hSw; (try dsimp only at hSw); go_simp; try with_reducible rfl)
                try go_frame
                refine wpAnyH_takeL (i := 20) (v := ?_) rfl (by kernel_rfl) (by kernel_rfl) (by kernel_rfl) (fun _ _ _ h => h) (Or.inl ⟨by rfl, ?_⟩) hHeld ?_
                rotate_left
                · (intro w hSw; (try dsimp only at hSw); go_simp; try with_reducible rfl)
                try go_frame
                refine wpAnyH_takeL (i := 21) (v := ?_) rfl (by kernel_rfl) (by kernel_rfl) (by kernel_rfl) (fun _ _ _ h => h) (Or.inl ⟨by rfl, ?_⟩) hHeld ?_
                rotate_left
                · (intro w hSw; (try dsimp only at hSw); go_simp; try with_reducible rfl)
                try go_frame
                refine wpAnyH_takeL (i := 22) (v := ?_) rfl (by kernel_rfl) (by kernel_rfl) (by kernel_rfl) (fun _ _ _ h => h) (Or.inl ⟨by rfl, ?_⟩) hHeld ?_
                rotate_left
                · (intro w hSw; (try dsimp only at hSw); go_simp; try with_reducible rfl)
                try go_frame
                refine wpAnyH_takeL (i := 23) (v := ?_) rfl (by kernel_rfl) (by kernel_rfl) (by kernel_rfl) (fun _ _ _ h => h) (Or.inl ⟨by rfl, ?_⟩) hHeld ?_
                rotate_left
                · (intro w hSw; (try dsimp only at hSw); go_simp; try with_reducible rfl)
                try go_frame
                refine wpAnyH_takeL (i := 24) (v := ?_) rfl (by kernel_rfl) (by kernel_rfl) (by kernel_rfl) (fun _ _ _ h => h) (Or.inl ⟨by rfl, ?_⟩) hHeld ?_
                rotate_left
                · (intro w hSw; (try dsimp only at hSw); go_simp; try with_reducible rfl)
                try go_frame
                refine wpAnyH_takeL (i := 25) (v := ?_) rfl (by kernel_rfl) (by kernel_rfl) (by kernel_rfl) (fun _ _ _ h => h) (Or.inl ⟨by rfl, ?_⟩) hHeld ?_
                rotate_left
                · (intro w hSw; (try dsimp only at hSw); go_simp; try with_reducible rfl)
                try go_frame
                refine wpAnyH_takeL (i := 26) (v := ?_) rfl (by kernel_rfl) (by kernel_rfl) (by kernel_rfl) (fun _ _ _ h => h) (Or.inl ⟨by rfl, ?_⟩) hHeld ?_
                rotate_left
                · (intro w hSw; (try dsimp only at hSw); go_simp; try with_reducible rfl)
                try go_frame
                refine wpAnyH_done (by kernel_rfl) ?_ _
                clear HMK hHeld k0 HB
                go_wp2
                go_roundw
                case rel => exact ⟨nx, by omega, rfl, HB2.out⟩
                case measure => have := HNX.out; simp [intOf] <;> omega
          · have hilI : ¬ (i : Int) < (no : Int) := by omega
            have T6 : Hid (FqSt w wr g n c gs m cs ag ng cg L S F) := T5.out.below HB.out
            clear HB T5 HO5 HG2
            go_wp2_with fail
            refine (CI.out b 0 0 0 none [] _ T6.out.ol.entsAt ⟨rfl, Nat.le_refl _, Nat.zero_le _, (fun q hq => by cases hq), (fun _ => rfl), (fun x e => by cases e), (fun x e => by cases e)⟩ (by omega) T6.out.ol.lt.2).mono ?_
            rintro e w7 ⟨a7, n7, c7, rfl, hO7, hb7⟩
            have T7 : Hid (FqSt w w7 g n c gs m cs ag ng cg L S F) := T6.out.below hb7
            have h7 : n7 ≤ ng := by have h1 := hO7.len; have h2 := HGL.out; omega
            have h7I : (n7 : Int) ≤ (ng : Int) := by omega
            clear hO7 hb7 T6
            go_wp2_with fail
            refine (CI.out false _ m cs _ S _ T7.out.ol.entsAt T7.out.ot.ints (by omega) T7.out.ol.lt.2).mono ?_
            rintro e w8 ⟨a8, n8, c8, rfl, hO8, hb8⟩
            have T8 : Hid (FqSt w w8 g n c gs m cs ag ng cg L S F) := T7.out.below hb8
            have h8 : no ≤ n8 := by have h1 := hO8.len; have h2 := HL5.out; omega
            have h8I : (no : Int) ≤ (n8 : Int) := by omega
            clear hO8 hb8 T7
            go_wp2_with fail
            refine (wpKeys2_any g 0 n c L _ T8.out.ol.entsAt (by omega) T8.out.ol.lt.2).mono ?_
            rintro e w9 ⟨v9, c9, rfl, hb9⟩
            have HB9 : Hid (Below w.heap.size w w9) := (T8.out.below hb9).all
            obtain ⟨KN, hKN⟩ : ∃ KN, KN = (Sq.parts keyEq L).length := ⟨_, rfl⟩
            have hKn : KN ≤ 15 := by have := HKL.out; omega
            rw [← hKN] at G3 ⊢
            have h9 : ng ≤ KN * (m + 1) := by have := HGL.out; omega
            have hmul : IntKind.i64.wrap ((KN : Int) * ((m : Int) + 1)) = (KN : Int) * ((m : Int) + 1) := by
              have hb : KN * (m + 1) ≤ 15 * 4 := Nat.mul_le_mul hKn (by omega)
              have hc : ((KN * (m + 1) : Nat) : Int) = (KN : Int) * ((m : Int) + 1) := by simp
              rw [IntWalk.i64_left]
              unfold wrap64
              omega
            have h9I : (ng : Int) ≤ (KN : Int) * ((m : Int) + 1) := by
              have hc : ((KN * (m + 1) : Nat) : Int) = (KN : Int) * ((m : Int) + 1) := by simp
              omega
            have wm : IntKind.i64.wrap ((m : Int) + 1) = (m : Int) + 1 := by rw [IntWalk.i64_left]; unfold wrap64; omega
            clear hb9 T8 hKN
            go_wp2
            go_ret
            exact ⟨rfl, HB9.out⟩
  · have hlI : (1048576 : Int) < (len : Int) := by omega
    go_enter Try.func10, Try.ntmps10
    go_wp2
    go_ret
    exact ⟨rfl, Below.refl _ _⟩
end Go.Proofs.Ythhiahjafhkbbaa
