/-
  When two entries are one, as the model's comparison of structs tells it; lists that agree so far. No function of the program is walked here.
  That two lists of entries are one, by a walk of the laws' Go text.
  The walk of the law FnSquashTimes: it answers true at all bytes: of the times that are kept only which they are matters.
-/
import Derived.Test.YthhiahjafhkbbaaEnts
import Derived.Test.YthhiahjafhkbbaaEntI
import Derived.Deep.QuietTactic
import Derived.Deep.LoopGhost
import Derived.BigQuiet
import Derived.Test.YthhiahjafhkbbaaSqX
import Derived.Test.YthhiahjafhkbbaaSqG
import Derived.Test.YthhiahjafhkbbaaDrawSq
import Derived.Test.YthhiahjafhkbbaaAppend
namespace Go.Proofs.Ythhiahjafhkbbaa
open Go.RowKit

theorem bytes_ne {s s' : ByteArray} (h : ¬ s = s') : ¬ s.toList = s'.toList := fun e => h (by
  rw [ByteArray.toList_eq, ByteArray.toList_eq] at e
  obtain ⟨⟨x⟩⟩ := s
  obtain ⟨⟨y⟩⟩ := s'
  simpa using e)
set_option maxRecDepth 100000 in
theorem neq_ent_same (s t : ByteArray) (q d n : Int) (w : World) : (binOp .neq 54 (.agg #[.string s, .int .i64 q, .int .i64 d, .string t, .int .i64 n]) (.agg #[.string s, .int .i64 q, .int .i64 d, .string t, .int .i64 n])).run Try.prog w = .ok (.bool false) w := by
  have hs := run_equalIn_struct (P := Try.prog) w 9999 54 #[.string s, .int .i64 q, .int .i64 d, .string t, .int .i64 n] #[.string s, .int .i64 q, .int .i64 d, .string t, .int .i64 n] (by kernel_rfl) (by kernel_rfl)
  simp [binOp, Op.equal, Op.maxDepth, hs, go_sem, Try.underlying54]
set_option maxRecDepth 100000 in
theorem neq_ent_diff (s t : ByteArray) (q d n : Int) (s' t' : ByteArray) (q' d' n' : Int) (w : World) (h : ¬ ((s, q, d, t, n) : EntD) = (s', q', d', t', n')) : (binOp .neq 54 (.agg #[.string s, .int .i64 q, .int .i64 d, .string t, .int .i64 n]) (.agg #[.string s', .int .i64 q', .int .i64 d', .string t', .int .i64 n'])).run Try.prog w = .ok (.bool true) w := by
  have hs := run_equalIn_struct (P := Try.prog) w 9999 54 #[.string s, .int .i64 q, .int .i64 d, .string t, .int .i64 n] #[.string s', .int .i64 q', .int .i64 d', .string t', .int .i64 n'] (by kernel_rfl) (by kernel_rfl)
  by_cases h1 : s = s'
  · subst h1
    by_cases h2 : q = q'
    · subst h2
      by_cases h3 : d = d'
      · subst h3
        by_cases h4 : t = t'
        · subst h4
          have h5 : ¬ n = n' := fun e => h (by rw [e])
          simp [binOp, Op.equal, Op.maxDepth, hs, go_sem, Try.underlying54, h5]
        · have h4' := bytes_ne h4
          simp [binOp, Op.equal, Op.maxDepth, hs, go_sem, Try.underlying54, h4']
      · simp [binOp, Op.equal, Op.maxDepth, hs, go_sem, Try.underlying54, h3]
    · simp [binOp, Op.equal, Op.maxDepth, hs, go_sem, Try.underlying54, h2]
  · have h4 := bytes_ne h1
    simp [binOp, Op.equal, Op.maxDepth, hs, go_sem, Try.underlying54, h4]

theorem ents_eq_snoc {L1 L2 : List EntD} {k : Nat} {l : EntD} (h1 : L1[k]? = some l) (h2 : L2[k]? = some l) (h : L1.take k = L2.take k) : L1.take (k + 1) = L2.take (k + 1) := by
  rw [List.take_add_one, List.take_add_one, h1, h2, h]

end Go.Proofs.Ythhiahjafhkbbaa

namespace Go.Proofs.Ythhiahjafhkbbaa
open Go.RowKit

set_option maxHeartbeats 800000 in
theorem wpEnts_any (a1 a2 : Option Addr) (n1 c1 n2 c2 : Nat) (L1 L2 : List EntD) (w : World) (h1 : EntsAt w a1 n1 c1 L1) (h2 : EntsAt w a2 n2 c2 L2) :
    Calls Try.prog 31 #[.slice a1 n1 c1, .slice a2 n2 c2] w fun e w' => e = .returned (.bool (decide (L1 = L2))) ∧ Below w.heap.size w w' := by
  have HN1 : Hid (L1.length = n1) := h1.length
  have HN2 : Hid (L2.length = n2) := h2.length
  have hr1 := h1.room
  have hb1 := h1.big
  have hr2 := h2.room
  have hb2 := h2.big
  unfold maxLen at hb1 hb2
  have H1 : Hid (EntsAt w a1 n1 c1 L1) := h1
  have H2 : Hid (EntsAt w a2 n2 c2 L2) := h2
  clear h1 h2
  by_cases hn : n1 = n2
  · subst hn
    go_enter Try.func31, Try.ntmps31
    go_wp2
    go_loopw [5] (fun i wr => ∃ k : Nat, k ≤ n1 ∧ i = .int .i64 k ∧ Below w.heap.size w wr ∧ L1.take k = L2.take k) (fun i _ => n1 - (intOf i).toNat)
    case atStart => exact ⟨0, Nat.zero_le _, rfl, Below.refl _ _, rfl⟩
    case round =>
      obtain ⟨k, hk, rfl, hb, heq⟩ := hrel
      have HEQ : Hid (L1.take k = L2.take k) := heq
      clear heq
      by_cases hlt : k < n1
      · obtain ⟨x1, o1, rfl, hx1⟩ := H1.out.form (by omega)
        obtain ⟨x2, o2, rfl, hx2⟩ := H2.out.form (by omega)
        obtain ⟨s, q, d, t, n, hg, _, g0, g1, g2, g3, g4⟩ := H1.out.ent hb hx1 k hlt
        obtain ⟨s', q', d', t', n', hg', _, p0, p1, p2, p3, p4⟩ := H2.out.ent hb hx2 k hlt
        have HG : Hid (L1[k]? = some (s, q, d, t, n)) := hg
        have HG' : Hid (L2[k]? = some (s', q', d', t', n')) := hg'
        have hltI : (k : Int) < (n1 : Int) := by omega
        clear hg hg'
        by_cases hl : (s, q, d, t, n) = (s', q', d', t', n')
        · cases hl
          have hne := neq_ent_same s t q d n
          go_wp2_with fail
          go_quiet (fail)
          go_wp2
          go_roundw
          case rel => exact ⟨k + 1, by omega, by go_num, below_drewN hb _, ents_eq_snoc HG.out HG'.out HEQ.out⟩
          case measure => simp [intOf]; omega
        · have hne := fun w => neq_ent_diff s t q d n s' t' q' d' n' w hl
          have HD : Hid (¬ (s, q, d, t, n) = (s', q', d', t', n')) := hl
          clear hl
          go_wp2_with fail
          go_quiet (fail)
          go_wp2
          go_ret
          refine ⟨ret_bool (decide_eq_false ?_).symm, below_drewN hb _⟩
          intro e
          rw [e, HG'.out] at HG
          exact HD.out (by simpa [Hid] using HG.symm)
      · go_wp2
        go_ret
        refine ⟨ret_bool (decide_eq_true ?_).symm, hb⟩
        have := HEQ.out
        rw [List.take_of_length_le (by rw [HN1.out]; omega), List.take_of_length_le (by rw [HN2.out]; omega)] at this
        exact this
  · go_enter Try.func31, Try.ntmps31
    go_wp2
    go_ret
    refine ⟨ret_bool (decide_eq_false ?_).symm, Below.refl _ _⟩
    intro e
    rw [e, HN2.out] at HN1
    exact hn HN1.out.symm

end Go.Proofs.Ythhiahjafhkbbaa

namespace Go.Proofs.Ythhiahjafhkbbaa
open Go.RowKit

theorem parts_congr {r1 r2 : EntD → EntD → Bool} : ∀ L : List EntD, (∀ x ∈ L, ∀ y ∈ L, r1 x y = r2 x y) → Sq.parts r1 L = Sq.parts r2 L
  | [], _ => rfl
  | x :: L, h => by
    have ih := parts_congr L (fun a ha b hb => h a (List.mem_cons_of_mem _ ha) b (List.mem_cons_of_mem _ hb))
    rw [Sq.parts_cons, Sq.parts_cons, ih]
    match L with
    | [] => rfl
    | y :: R =>
      obtain ⟨c, cs, hp⟩ := Sq.parts_head r2 y R
      rw [hp]
      simp only [Sq.putP]
      rw [h x List.mem_cons_self y (List.mem_cons_of_mem _ List.mem_cons_self)]
theorem squash_congr {S S' : List Int} (bottom : Bool) {L : List EntD} (h : ∀ o n, 1 ≤ o → n ≤ 100000 → apartB S o n = apartB S' o n) : squashL L S bottom = squashL L S' bottom := by
  unfold squashL
  by_cases hr : rightB L = true
  · rw [if_pos hr, if_pos hr]
    have key : ∀ G ∈ Sq.parts keyEq L, leftS S bottom G = leftS S' bottom G := fun G hG => by
      unfold leftS
      rw [parts_congr (r1 := cutB S) (r2 := cutB S') G (fun x hx y hy => ?_)]
      have hx' := (part_len _ _ G hG).2 x hx
      have hy' := (part_len _ _ G hG).2 y hy
      obtain ⟨i, hi⟩ := List.getElem?_of_mem hx'
      obtain ⟨j, hj⟩ := List.getElem?_of_mem hy'
      unfold cutB
      rw [h _ _ (entB_seq (right_ent hr hj)).1 (entB_seq (right_ent hr hi)).2]
    rw [List.flatMap_def, List.flatMap_def, List.map_congr_left key]
  · rw [if_neg hr, if_neg hr]
/-- The times turned round, each twice, with some that tell nothing. -/
def turnI (S : List Int) (j : Nat) : List Int := [0, -5] ++ (S.drop j).reverse.flatMap (fun s => [s, s])
theorem turn_all {S : List Int} {n : Nat} (h : S.length = n) : turnI S n = [0, -5] := by
  unfold turnI
  rw [List.drop_eq_nil_of_le (by omega)]
  rfl
theorem turn_step {S : List Int} {j : Nat} {s : Int} (h : S[j]? = some s) : turnI S j = turnI S (j + 1) ++ [s, s] := by
  obtain ⟨hj, e⟩ := List.getElem?_eq_some_iff.1 h
  unfold turnI
  rw [List.drop_eq_getElem_cons hj, e]
  simp
theorem turn_len {S : List Int} {j n : Nat} (h : S.length = n) : (turnI S j).length = 2 + 2 * (n - j) := by
  unfold turnI
  have key : ∀ l : List Int, (l.flatMap (fun s => [s, s])).length = 2 * l.length := by
    intro l
    induction l with
    | nil => rfl
    | cons x l ih => rw [List.flatMap_cons, List.length_append, ih, List.length_cons]; simp; omega
  rw [List.length_append, key]
  simp
  omega
theorem turn_apart (S : List Int) (o n : Int) (ho : 1 ≤ o) (hn : n ≤ 100000) : apartB S o n = apartB (turnI S 0 ++ [100007]) o n := by
  rw [Bool.eq_iff_iff]
  unfold apartB turnI
  simp only [List.any_eq_true, Bool.and_eq_true, decide_eq_true_eq, List.drop_zero, List.mem_append, List.mem_flatMap, List.mem_reverse, List.mem_cons, List.not_mem_nil, or_false]
  constructor
  · rintro ⟨x, hx, h⟩
    exact ⟨x, .inl (.inr ⟨x, hx, .inl rfl⟩), h⟩
  · rintro ⟨x, (hx | ⟨y, hy, hxy⟩) | hx, h1, h2⟩
    · omega
    · have : x = y := by rcases hxy with h | h <;> exact h
      subst this
      exact ⟨x, hy, h1, h2⟩
    · omega
theorem times_same (L : List EntD) (S : List Int) (bottom : Bool) : squashL L (turnI S 0 ++ [100007]) bottom = squashL L S bottom := (squash_congr bottom (fun o n ho hn => turn_apart S o n ho hn)).symm

/-- What lies where. -/
structure TmSt (w wi : World) (g n c gs m cs : Nat) (ag : Option Addr) (ng cg : Nat) (L : List EntD) (S : List Int) (F : List EntD) : Prop where
  all : Below w.heap.size w wi
  ol : OwnE wi w.heap.size g n c L
  os : OwnN wi w.heap.size gs m cs S
  og : OwnO wi w.heap.size ag ng cg F
theorem TmSt.below {w wi wj : World} {g n c gs m cs : Nat} {ag : Option Addr} {ng cg : Nat} {L : List EntD} {S : List Int} {F : List EntD} (h : TmSt w wi g n c gs m cs ag ng cg L S F) (hb : Below wi.heap.size wi wj) : TmSt w wj g n c gs m cs ag ng cg L S F :=
  ⟨h.all.trans (hb.mono h.all.size), h.ol.below hb, h.os.below hb, h.og.below hb⟩
theorem TmSt.grown {w wi wj : World} {g n c gs m cs : Nat} {ag : Option Addr} {ng cg : Nat} {L : List EntD} {S : List Int} {F : List EntD} {z : Nat} (h : TmSt w wi g n c gs m cs ag ng cg L S F) (hg : wi.grownBy wj (some z)) (hz : w.heap.size ≤ z) (h1 : g ≠ z) (h2 : gs ≠ z) (h3 : ∀ x, ag = some x → x.block ≠ z) : TmSt w wj g n c gs m cs ag ng cg L S F :=
  ⟨h.all.grown hg h.all.size (fun k e => by cases e; exact hz), h.ol.grown hg (fun e => h1 (Option.some.inj e)), h.os.grown hg (fun e => h2 (Option.some.inj e)), h.og.grown hg (fun x e e' => h3 x e (by cases e'; rfl))⟩
theorem own_two (w : World) (base : Nat) (h : base ≤ w.heap.size) : OwnN (w.alloc (.cells #[.int .i64 0, .int .i64 (-5)] 3)) base w.heap.size 2 2 [0, -5] :=
  ⟨by have := World.ownsRow_lit (base := base) (e := 3) (size := 1) w #[.int .i64 0, .int .i64 (-5)] 2 h (by unfold maxLen; omega) (by simp); simpa using this, rfl, fun q hq => by
    simp only [List.mem_cons, List.not_mem_nil, or_false] at hq
    rcases hq with rfl | rfl <;> decide⟩

theorem cellI_two (w : World) (s : Int) (T : TypeId) : ∀ j u, [Value.int .i64 s, .int .i64 s][j]? = some u → ((w.alloc (.cells #[.int .i64 s, .int .i64 s] T)).drew).cell? ((⟨w.heap.size, 0, none⟩ : Addr).add j) = some u := by
  intro j u hj
  rw [Go.WideShapes.add_plain]
  match j, hj with
  | 0, hj => simp at hj; subst hj; simp
  | 1, hj => simp at hj; subst hj; simp
  | j + 2, hj => simp at hj
theorem tmA {w wr w6 : World} {X g n c gs m cs gt nt ct g6 c6 : Nat} {ag : Option Addr} {ng cg : Nat} {L : List EntD} {S T : List Int} {F : List EntD} {q : Int} {o : Obj} (hl : g < X ∧ gs < X ∧ (∀ x, ag = some x → x.block < X) ∧ w.heap.size ≤ X) (hO : OwnN wr X gt nt ct T) (hT : TmSt w wr g n c gs m cs ag ng cg L S F) (hq : (Lit.int .i64 q).wf = true)
    (hown : w6.ownsRow X 3 1 (.slice (some ⟨g6, 0, none⟩) (nt + 1) c6) (nt + 1) (T.map (Value.int .i64) ++ [.int .i64 q])) (hgrow : (wr.alloc o).grownBy w6 (Value.slice (some ⟨gt, 0, none⟩) nt ct).ownBlock) :
    Hid (OwnN w6 X g6 (nt + 1) c6 (T ++ [q])) ∧ Hid (TmSt w w6 g n c gs m cs ag ng cg L S F) := by
  have hal : Below wr.heap.size wr (wr.alloc o) := (Below.refl _ _).alloc (Nat.le_refl _) _
  have hg' : (wr.alloc o).grownBy w6 (some gt) := by simpa [Value.ownBlock] using hgrow
  have hgt := hO.lt.1
  refine ⟨⟨by rw [List.map_append]; exact hown, by rw [List.length_append, hO.len]; rfl, fun x hx => ?_⟩, (hT.below hal).grown hg' (by omega) (by omega) (by omega) (fun x e => by have := hl.2.2.1 x e; omega)⟩
  rcases List.mem_append.1 hx with h | h
  · exact hO.wfs x h
  · rw [List.mem_singleton] at h; subst h; exact hq
theorem tmB {w wr w6 : World} {X g n c gs m cs gt nt ct g6 c6 : Nat} {ag : Option Addr} {ng cg : Nat} {L : List EntD} {S T : List Int} {F : List EntD} {s : Int} (hl : g < X ∧ gs < X ∧ (∀ x, ag = some x → x.block < X) ∧ w.heap.size ≤ X) (hO : OwnN wr X gt nt ct T) (hT : TmSt w wr g n c gs m cs ag ng cg L S F) (hq : (Lit.int .i64 s).wf = true)
    (hown : w6.ownsRow X 3 1 (.slice (some ⟨g6, 0, none⟩) (nt + 1 + 1) c6) (nt + 1 + 1) (T.map (Value.int .i64) ++ [.int .i64 s, .int .i64 s])) (hgrow : ((wr.alloc (.cells #[.int .i64 s, .int .i64 s] 3)).drew).grownBy w6 (Value.slice (some ⟨gt, 0, none⟩) nt ct).ownBlock) :
    Hid (OwnN w6 X g6 (nt + 1 + 1) c6 (T ++ [s, s])) ∧ Hid (TmSt w w6 g n c gs m cs ag ng cg L S F) ∧ X ≤ w6.heap.size := by
  have hal : Below wr.heap.size wr ((wr.alloc (.cells #[.int .i64 s, .int .i64 s] 3)).drew) := ((Below.refl _ _).alloc (Nat.le_refl _) _).drew
  have hg' : ((wr.alloc (.cells #[.int .i64 s, .int .i64 s] 3)).drew).grownBy w6 (some gt) := by simpa [Value.ownBlock] using hgrow
  have hgt := hO.lt
  have hs := hg'.size
  have hs2 := hal.size
  refine ⟨⟨by rw [List.map_append]; exact hown, by rw [List.length_append, hO.len]; rfl, fun x hx => ?_⟩, (hT.below hal).grown hg' (by omega) (by omega) (by omega) (fun x e => by have := hl.2.2.1 x e; omega), by omega⟩
  rcases List.mem_append.1 hx with h | h
  · exact hO.wfs x h
  · simp only [List.mem_cons, List.not_mem_nil, or_false, or_self] at h; subst h; exact hq

set_option maxRecDepth 100000 in
set_option maxHeartbeats 4000000 in
theorem walkFnSquashTimes (a : Option Addr) (len cap : Nat) (w : World) (h : BytesAt w a len cap) :
    Calls Try.prog 9 #[.slice a len cap] w fun e w' => e = .returned (.bool true) ∧ Below w.heap.size w w' := by
  by_cases hl : len ≤ 1048576
  · have hlI : ¬ (1048576 : Int) < (len : Int) := by omega
    obtain ⟨i0, hi, hz0, hz1, hz2⟩ := info_parts Try.infoInt
    have CD := drawSq_any a len cap w h
    clear h
    go_enter Try.func9, Try.ntmps9
    go_wp2_with fail
    refine CD.mono ?_
    rintro e w1 ⟨g, n, c, L, gs, m, cs, S, b, rfl, hO, hN, hD, hm, hS, hgs, hb1⟩
    have HB1 : Hid (Below w.heap.size w w1) := hb1
    have HO1 : Hid (OwnE w1 w.heap.size g n c L) := hO
    have HN1 : Hid (OwnN w1 w.heap.size gs m cs S) := hN
    have hn : n ≤ 1048576 := by have h1 := hO.len; have h2 := hD.1; omega
    have CI : Hid (∀ (b' lo m' d' : Nat) (S' : List Int) (w' : World), squashL L S' b = squashL L S b → EntsAt w' (some ⟨g, 0, none⟩) n c L → IntsIn lo w' (some ⟨b', 0, none⟩) m' d' S' → m' ≤ 1048576 → g < w'.heap.size → Calls Try.prog 15 #[.slice (some ⟨g, 0, none⟩) n c, .slice (some ⟨b', 0, none⟩) m' d', .bool b] w' fun e w'' => ∃ ar n' c', e = .returned (.slice ar n' c') ∧ OwnO w'' w'.heap.size ar n' c' (squashL L S b) ∧ Below w'.heap.size w' w'') := fun b' lo m' d' S' w' he h1 h2 h3 h4 => by rw [← he]; exact callsIn_wide.1 (implSquash lo g 0 n c L _ _ _ S' b w' h1 h2 hn h3 h4)
    have CS : Hid (∀ (lo : Nat) (w' : World), EntsAt w' (some ⟨g, 0, none⟩) n c L → IntsIn lo w' (some ⟨gs, 0, none⟩) m cs S → Calls Try.prog 12 #[.slice (some ⟨g, 0, none⟩) n c, .slice (some ⟨gs, 0, none⟩) m cs, .bool b] w' fun e w'' => ∃ g' n' c', e = .returned (.slice (some ⟨g', 0, none⟩) n' c') ∧ OwnE w'' w'.heap.size g' n' c' (squashL L S b) ∧ Below w'.heap.size w' w'') := fun lo w' h1 h2 => specSquash lo _ _ _ L _ _ _ S b w' h1 h2 hn
    have HTS : Hid (squashL L (turnI S 0 ++ [100007]) b = squashL L S b) := times_same L S b
    obtain ⟨F, hF⟩ : ∃ F, squashL L S b = F := ⟨_, rfl⟩
    have HSB : Hid (squashL L S b = F) := hF
    rw [hF] at CS HTS
    simp only [hF] at CI
    have HSS : Hid (S.length = m) := hN.len
    clear hb1 hO hN CD hF hD hS hl hlI
    go_wp2_with fail
    refine (CI.out gs _ m cs S _ HSB.out HO1.out.entsAt HN1.out.ints (by omega) HO1.out.lt.2).mono ?_
    rintro e w2 ⟨ag, ng, cg, rfl, hG2, hb2⟩
    have T2 : Hid (TmSt w w2 g n c gs m cs ag ng cg L S F) := ⟨HB1.out.trans (hb2.mono HB1.out.size), HO1.out.below hb2, HN1.out.below hb2, hG2.mono HB1.out.size⟩
    clear hG2 hb2 HB1 HO1 HN1 HSB
    go_wp2_with fail
    refine (CS.out _ _ T2.out.ol.entsAt T2.out.os.ints).mono ?_
    rintro e w3 ⟨gw, nw, cw, rfl, hW3, hb3⟩
    have T3 : Hid (TmSt w w3 g n c gs m cs ag ng cg L S F) := T2.out.below hb3
    have HW3 : Hid (EntsAt w3 (some ⟨gw, 0, none⟩) nw cw F) := hW3.entsAt
    clear T2 hW3 hb3 CS
    go_wp2_with fail
    refine (wpEnts_any _ _ _ _ _ _ F F _ T3.out.og.entsAt HW3.out).mono ?_
    rintro e w4 ⟨rfl, hb4⟩
    have T4 : Hid (TmSt w w4 g n c gs m cs ag ng cg L S F) := T3.out.below hb4
    have hFF : decide (F = F) = true := by simp
    rw [hFF]
    clear T3 HW3 hb4 hFF
    obtain ⟨X, hX⟩ : ∃ X, X = w4.heap.size := ⟨_, rfl⟩
    have HLT : Hid (g < X ∧ gs < X ∧ (∀ x, ag = some x → x.block < X) ∧ w.heap.size ≤ X) := ⟨by rw [hX]; exact T4.out.ol.lt.2, by rw [hX]; exact T4.out.os.lt.2, fun x e => by rw [hX]; exact (T4.out.og.lt x e).2, by rw [hX]; exact T4.out.all.size⟩
    obtain ⟨w5, hw5⟩ : ∃ w5, w5 = w4.alloc (.cells #[.int .i64 0, .int .i64 (-5)] 3) := ⟨_, rfl⟩
    have k5 : Below w4.heap.size w4 w5 := by rw [hw5]; exact (Below.refl _ _).alloc (Nat.le_refl _) _
    have HT5 : Hid (OwnN w5 X X 2 2 (turnI S m)) := by
      show OwnN _ _ _ _ _ _
      rw [turn_all HSS.out, hw5, hX]
      exact own_two w4 _ (Nat.le_refl _)
    have T5 : Hid (TmSt w w5 g n c gs m cs ag ng cg L S F) := T4.out.below k5
    have hX5 : X ≤ w5.heap.size := by rw [hX]; exact k5.size
    go_upto_region 8 with fail
    rw [← hw5, ← hX]
    clear hw5 hX k5 T4
    have wm : IntKind.i64.wrap ((m : Int) - 1) = (m : Int) - 1 := by rw [IntWalk.i64_left]; unfold wrap64; omega
    go_wp2
    go_loopw [7, 8] (fun o iv wr => ∃ (j nt gt ct : Nat) (z : Int), j ≤ m ∧ z = (j : Int) - 1 ∧ iv = .int .i64 z ∧ o = .slice (some ⟨gt, 0, none⟩) nt ct ∧ OwnN wr X gt nt ct (turnI S j) ∧ TmSt w wr g n c gs m cs ag ng cg L S F ∧ X ≤ wr.heap.size) (fun _ iv _ => (intOf iv + 1).toNat)
    case atStart => exact ⟨m, 2, X, 2, _, Nat.le_refl _, rfl, rfl, rfl, HT5.out, T5.out, hX5⟩
    case round =>
      clear HT5 T5 hX5 wm
      obtain ⟨j, nt, gt, ct, z, hj, hz, rfl, rfl, hO, hT, hXw⟩ := hrel
      have HO : Hid (OwnN wr X gt nt ct (turnI S j)) := hO
      have HT : Hid (TmSt w wr g n c gs m cs ag ng cg L S F) := hT
      have hnt : nt ≤ 8 := by have h1 := hO.len; rw [turn_len HSS.out] at h1; omega
      clear hO hT
      by_cases hj0 : j = 0
      · subst hj0
        have hz' : z = -1 := by omega
        subst hz'
        clear hz
        have hgt := HO.out.lt
        go_wp2_with (at_builtin; refine wpList_append_own_at _ rfl _ _ 23 rfl X 3 i0 _ 1 8 Try.underlying23 hi hz0 hz1 hz2 rfl (by decide) _ _ _ rfl (HO.out.owns.alloc _) ⟨wr.heap.size, 0, none⟩ 1 1 [.int .i64 100007] rfl rfl (cellI_one _ _ _) (by simp [Value.oneCell']) (by unfold maxLen; omega) (by omega) (by simp; omega) ?_; intro v6 w6 hown6 hgrow6 hnil6 hat6; obtain ⟨g6, c6, rfl⟩ := sd_some hown6; have R6 := tmA HLT.out HO.out HT.out (by decide) hown6 hgrow6; clear hown6 hgrow6 hnil6 hat6)
        obtain ⟨HO6, T6⟩ := R6
        have hg6 := HO6.out.lt.2
        refine (CI.out g6 _ (nt + 1) c6 _ _ HTS.out T6.out.ol.entsAt HO6.out.ints (by omega) T6.out.ol.lt.2).mono ?_
        rintro e w7 ⟨ah, nh, ch, rfl, hO7, hb7⟩
        have T7 : Hid (TmSt w w7 g n c gs m cs ag ng cg L S F) := T6.out.below hb7
        have HO7 : Hid (EntsAt w7 ah nh ch F) := hO7.entsAt
        clear T6 hO7 hb7 HO6
        go_wp2_with fail
        refine (wpEnts_any _ _ _ _ _ _ F F _ HO7.out T7.out.og.entsAt).mono ?_
        rintro e w8 ⟨rfl, hb8⟩
        have HB8 : Hid (Below w.heap.size w w8) := (T7.out.below hb8).all
        clear hb8 T7 HO7
        go_wp2
        go_ret
        exact ⟨by simp, HB8.out⟩
      · obtain ⟨jj, rfl⟩ : ∃ jj, j = jj + 1 := ⟨j - 1, by omega⟩
        have hz' : z = (jj : Int) := by omega
        subst hz'
        clear hz hj0
        have hjI : (jj : Int) < (m : Int) := by omega
        have hj0 : (0 : Int) ≤ (jj : Int) := by omega
        obtain ⟨s, hs, hws, cS⟩ := HT.out.os.ints.num (Below.refl _ wr) jj (by omega)
        have HST : Hid (turnI S jj = turnI S (jj + 1) ++ [s, s]) := turn_step hs
        have hgs5 := HT.out.os.lt.2
        simp only [Nat.zero_add] at cS
        clear hs
        have wj : IntKind.i64.wrap ((jj : Int) - 1) = (jj : Int) - 1 := by rw [IntWalk.i64_left]; unfold wrap64; omega
        have kA : Below wr.heap.size wr ((wr.alloc (.cells #[.int .i64 s, .int .i64 s] 3)).drew) := ((Below.refl _ _).alloc (Nat.le_refl _) _).drew
        have OA := HO.out.below kA
        have hszA : ((wr.alloc (.cells #[.int .i64 s, .int .i64 s] 3)).drew).heap.size = wr.heap.size + 1 := by simp
        go_wp2_with fail
        go_region_law (refine step_append_own rfl (.tmp 37) (.tmp 46) 23 rfl X 3 i0 _ 1 8 Try.underlying23 hi hz0 hz1 hz2 rfl (Nat.succ_pos 0) (.slice (some ⟨gt, 0, none⟩) nt ct) nt _ ?_ OA.owns ⟨wr.heap.size, 0, none⟩ 2 2 [.int .i64 s, .int .i64 s] ?_ ?_ ?_ ?_ ?_ ?_ ?_ ?_; rfl; rfl; rfl; exact cellI_two wr s 3; simp [Value.oneCell']; (unfold maxLen; omega); omega; (rw [hszA]; omega); intro v6 w6 hown6 hgrow6 hnil6; obtain ⟨g6, c6, rfl⟩ := sd_some hown6; have R6 := tmB HLT.out HO.out HT.out hws hown6 hgrow6; clear hown6 hgrow6 hnil6)
        all_goals
          obtain ⟨HO6, T6, hs6⟩ := R6
          go_wp2
          go_roundw
          case rel => exact ⟨jj, nt + 1 + 1, g6, c6, (jj : Int) - 1, by omega, rfl, by go_num, rfl, by rw [HST.out]; exact HO6.out, T6.out, hs6⟩
          case measure => simp [intOf] <;> omega
  · have hlI : (1048576 : Int) < (len : Int) := by omega
    go_enter Try.func9, Try.ntmps9
    go_wp2
    go_ret
    exact ⟨rfl, Below.refl _ _⟩
end Go.Proofs.Ythhiahjafhkbbaa
