/-
  When two entries are one, as the model's comparison of structs tells it; lists that agree so far. No function of the program is walked here.
  That two lists of entries are one, by a walk of the laws' Go text.
  The walk of the law FnSquashTwice: it answers true at all bytes: what is left stays as it is when it is squashed again, and with no times kept one entry of a key is left.
-/
import Derived.Test.YthhiahjafhkbbaaEnts
import Derived.Test.YthhiahjafhkbbaaEntI
import Derived.Deep.QuietTactic
import Derived.Deep.LoopGhost
import Derived.BigQuiet
import Derived.Test.YthhiahjafhkbbaaSqX
import Derived.Test.YthhiahjafhkbbaaSqG
import Derived.Test.YthhiahjafhkbbaaSqU
import Derived.Test.YthhiahjafhkbbaaDrawSq
namespace Go.Proofs.Ythhiahjafhkbbaa
open Go.RowKit

theorem bytes_ne {s s' : ByteArray} (h : ¬ s = s') : ¬ s.toList = s'.toList := fun e => h (by
  rw [ByteArray.toList_eq, ByteArray.toList_eq] at e
  obtain ⟨⟨x⟩⟩ := s
  obtain ⟨⟨y⟩⟩ := s'
  simpa using e)
set_option maxRecDepth 100000 in
theorem neq_ent_same (s t : ByteArray) (q d n : Int) (w : World) : (binOp .neq 54 (.agg #[.string s, .int .i64 q, .int .i64 d, .string t, .int .i64 n]) (.agg #[.string s, .int .i64 q, .int .i64 d, .string t, .int .i64 n])).run Try.prog w = .ok (.bool false) w := by
  have hs := run_equalIn_struct (P := Try.prog) w 9999 54 #[.string s, .int .i64 q, .int .i64 d, .string t, .int .i64 n] #[.string s, .int .i64 q, .int .i64 d, .string t, .int .i64 n] (by kernel_rfl) (by kernel_rfl)
  simp [binOp, Op.equal, Op.maxDepth, hs, go_sem, Try.underlying54]
set_option maxRecDepth 100000 in
theorem neq_ent_diff (s t : ByteArray) (q d n : Int) (s' t' : ByteArray) (q' d' n' : Int) (w : World) (h : ¬ ((s, q, d, t, n) : EntD) = (s', q', d', t', n')) : (binOp .neq 54 (.agg #[.string s, .int .i64 q, .int .i64 d, .string t, .int .i64 n]) (.agg #[.string s', .int .i64 q', .int .i64 d', .string t', .int .i64 n'])).run Try.prog w = .ok (.bool true) w := by
  have hs := run_equalIn_struct (P := Try.prog) w 9999 54 #[.string s, .int .i64 q, .int .i64 d, .string t, .int .i64 n] #[.string s', .int .i64 q', .int .i64 d', .string t', .int .i64 n'] (by kernel_rfl) (by kernel_rfl)
  by_cases h1 : s = s'
  · subst h1
    by_cases h2 : q = q'
    · subst h2
      by_cases h3 : d = d'
      · subst h3
        by_cases h4 : t = t'
        · subst h4
          have h5 : ¬ n = n' := fun e => h (by rw [e])
          simp [binOp, Op.equal, Op.maxDepth, hs, go_sem, Try.underlying54, h5]
        · have h4' := bytes_ne h4
          simp [binOp, Op.equal, Op.maxDepth, hs, go_sem, Try.underlying54, h4']
      · simp [binOp, Op.equal, Op.maxDepth, hs, go_sem, Try.underlying54, h3]
    · simp [binOp, Op.equal, Op.maxDepth, hs, go_sem, Try.underlying54, h2]
  · have h4 := bytes_ne h1
    simp [binOp, Op.equal, Op.maxDepth, hs, go_sem, Try.underlying54, h4]

theorem ents_eq_snoc {L1 L2 : List EntD} {k : Nat} {l : EntD} (h1 : L1[k]? = some l) (h2 : L2[k]? = some l) (h : L1.take k = L2.take k) : L1.take (k + 1) = L2.take (k + 1) := by
  rw [List.take_add_one, List.take_add_one, h1, h2, h]

end Go.Proofs.Ythhiahjafhkbbaa

namespace Go.Proofs.Ythhiahjafhkbbaa
open Go.RowKit

set_option maxHeartbeats 800000 in
theorem wpEnts_any (a1 a2 : Option Addr) (n1 c1 n2 c2 : Nat) (L1 L2 : List EntD) (w : World) (h1 : EntsAt w a1 n1 c1 L1) (h2 : EntsAt w a2 n2 c2 L2) :
    Calls Try.prog 31 #[.slice a1 n1 c1, .slice a2 n2 c2] w fun e w' => e = .returned (.bool (decide (L1 = L2))) ∧ Below w.heap.size w w' := by
  have HN1 : Hid (L1.length = n1) := h1.length
  have HN2 : Hid (L2.length = n2) := h2.length
  have hr1 := h1.room
  have hb1 := h1.big
  have hr2 := h2.room
  have hb2 := h2.big
  unfold maxLen at hb1 hb2
  have H1 : Hid (EntsAt w a1 n1 c1 L1) := h1
  have H2 : Hid (EntsAt w a2 n2 c2 L2) := h2
  clear h1 h2
  by_cases hn : n1 = n2
  · subst hn
    go_enter Try.func31, Try.ntmps31
    go_wp2
    go_loopw [5] (fun i wr => ∃ k : Nat, k ≤ n1 ∧ i = .int .i64 k ∧ Below w.heap.size w wr ∧ L1.take k = L2.take k) (fun i _ => n1 - (intOf i).toNat)
    case atStart => exact ⟨0, Nat.zero_le _, rfl, Below.refl _ _, rfl⟩
    case round =>
      obtain ⟨k, hk, rfl, hb, heq⟩ := hrel
      have HEQ : Hid (L1.take k = L2.take k) := heq
      clear heq
      by_cases hlt : k < n1
      · obtain ⟨x1, o1, rfl, hx1⟩ := H1.out.form (by omega)
        obtain ⟨x2, o2, rfl, hx2⟩ := H2.out.form (by omega)
        obtain ⟨s, q, d, t, n, hg, _, g0, g1, g2, g3, g4⟩ := H1.out.ent hb hx1 k hlt
        obtain ⟨s', q', d', t', n', hg', _, p0, p1, p2, p3, p4⟩ := H2.out.ent hb hx2 k hlt
        have HG : Hid (L1[k]? = some (s, q, d, t, n)) := hg
        have HG' : Hid (L2[k]? = some (s', q', d', t', n')) := hg'
        have hltI : (k : Int) < (n1 : Int) := by omega
        clear hg hg'
        by_cases hl : (s, q, d, t, n) = (s', q', d', t', n')
        · cases hl
          have hne := neq_ent_same s t q d n
          go_wp2_with fail
          go_quiet (fail)
          go_wp2
          go_roundw
          case rel => exact ⟨k + 1, by omega, by go_num, below_drewN hb _, ents_eq_snoc HG.out HG'.out HEQ.out⟩
          case measure => simp [intOf]; omega
        · have hne := fun w => neq_ent_diff s t q d n s' t' q' d' n' w hl
          have HD : Hid (¬ (s, q, d, t, n) = (s', q', d', t', n')) := hl
          clear hl
          go_wp2_with fail
          go_quiet (fail)
          go_wp2
          go_ret
          refine ⟨ret_bool (decide_eq_false ?_).symm, below_drewN hb _⟩
          intro e
          rw [e, HG'.out] at HG
          exact HD.out (by simpa [Hid] using HG.symm)
      · go_wp2
        go_ret
        refine ⟨ret_bool (decide_eq_true ?_).symm, hb⟩
        have := HEQ.out
        rw [List.take_of_length_le (by rw [HN1.out]; omega), List.take_of_length_le (by rw [HN2.out]; omega)] at this
        exact this
  · go_enter Try.func31, Try.ntmps31
    go_wp2
    go_ret
    refine ⟨ret_bool (decide_eq_false ?_).symm, Below.refl _ _⟩
    intro e
    rw [e, HN2.out] at HN1
    exact hn HN1.out.symm

end Go.Proofs.Ythhiahjafhkbbaa

namespace Go.Proofs.Ythhiahjafhkbbaa
open Go.RowKit

/-! Keys and times of what is left. -/
def kq (e : EntD) : ByteArray × Int := (e.1, e.2.1)
theorem cl_sub (b : Bool) : ∀ c : List EntD, ((clS b c).map kq).Sublist (c.map kq)
  | [] => List.Sublist.refl _
  | e :: R => by
    show ((classG b e.1 e.2.1 (e :: R)).map kq).Sublist _
    unfold classG
    by_cases h1 : sumOkB (joinG true 0 (e :: R)).2.2 = true
    · rw [if_pos h1]
      by_cases h2 : b = true ∧ (joinG true 0 (e :: R)).1 = 2
      · rw [if_pos h2]; exact List.nil_sublist _
      · rw [if_neg h2]
        simp only [List.map_cons, List.map_nil, kq]
        exact List.Sublist.cons_cons _ (List.nil_sublist _)
    · rw [if_neg h1]; exact List.Sublist.refl _
theorem left_sub (bottom : Bool) : ∀ Cs : List (List EntD), ((Cs.foldr (Sq.stepD clS) (bottom, [])).2.map kq).Sublist (Cs.flatten.map kq)
  | [] => List.Sublist.refl _
  | c :: Cs => by
    have ih := left_sub bottom Cs
    rw [List.foldr_cons, List.flatten_cons, List.map_append]
    generalize Cs.foldr (Sq.stepD clS) (bottom, []) = st at ih ⊢
    show ((clS st.1 c ++ st.2).map kq).Sublist _
    rw [List.map_append]
    exact List.Sublist.append (cl_sub _ c) ih
theorem flat_sub (S : List Int) (bottom : Bool) : ∀ Gs : List (List EntD), ((Gs.flatMap (leftS S bottom)).map kq).Sublist (Gs.flatten.map kq)
  | [] => List.Sublist.refl _
  | G :: Gs => by
    have ih := flat_sub S bottom Gs
    have h := left_sub bottom (Sq.parts (cutB S) G)
    rw [Sq.parts_flat] at h
    rw [List.flatMap_cons, List.flatten_cons, List.map_append, List.map_append]
    exact List.Sublist.append h ih
theorem squash_pair {L : List EntD} (h : L.Pairwise (fun a b => lessB a.1 a.2.1 b.1 b.2.1 = true)) (S : List Int) (bottom : Bool) : (squashL L S bottom).Pairwise (fun a b => lessB a.1 a.2.1 b.1 b.2.1 = true) := by
  unfold squashL
  by_cases hr : rightB L = true
  · rw [if_pos hr]
    have hs := flat_sub S bottom (Sq.parts keyEq L)
    rw [Sq.parts_flat] at hs
    have h1 : (L.map kq).Pairwise (fun a b => lessB a.1 a.2 b.1 b.2 = true) := List.pairwise_map.2 h
    exact List.pairwise_map.1 (h1.sublist hs)
  · rw [if_neg hr]; exact List.Pairwise.nil
theorem right_all {L : List EntD} {n : Nat} (hl : L.length = n) (h1 : ∀ e ∈ L, entB e.1 e.2.1 e.2.2.1 e.2.2.2.1 e.2.2.2.2 = true) (h2 : ∀ j, 1 ≤ j → j < n → ∀ x y, L[j - 1]? = some x → L[j]? = some y → lessB x.1 x.2.1 y.1 y.2.1 = true) : rightB L = true := by
  refine right_of (k := n) (fun j hj => ?_) (by omega)
  have hjl : j < L.length := by omega
  have he := List.getElem?_eq_getElem hjl
  match j, hj, hjl, he with
  | 0, _, hjl, he => rw [okAt_zero he]; exact h1 _ (List.getElem_mem hjl)
  | j + 1, hj, hjl, he =>
    have hd := List.getElem?_eq_getElem (l := L) (i := j) (by omega)
    rw [okAt_succ he hd, h1 _ (List.getElem_mem hjl), h2 (j + 1) (by omega) hj _ _ (show L[j + 1 - 1]? = _ from hd) he]
    rfl

/-- What lies where. -/
structure FqSt (w wi : World) (g n c gt nt ct : Nat) (ag : Option Addr) (ng cg : Nat) (L : List EntD) (T : List Int) (F : List EntD) : Prop where
  all : Below w.heap.size w wi
  ol : OwnE wi w.heap.size g n c L
  ot : OwnN wi w.heap.size gt nt ct T
  og : OwnO wi w.heap.size ag ng cg F
theorem FqSt.below {w wi wj : World} {g n c gt nt ct : Nat} {ag : Option Addr} {ng cg : Nat} {L : List EntD} {T : List Int} {F : List EntD} (h : FqSt w wi g n c gt nt ct ag ng cg L T F) (hb : Below wi.heap.size wi wj) : FqSt w wj g n c gt nt ct ag ng cg L T F :=
  ⟨h.all.trans (hb.mono h.all.size), h.ol.below hb, h.ot.below hb, h.og.below hb⟩

theorem right_squash {L : List EntD} (hr : rightB L = true) (S : List Int) (bottom : Bool) : rightB (squashL L S bottom) = true := by
  have hp := squash_pair (right_pair hr) S bottom
  refine right_all rfl (squash_ents (fun e he => by obtain ⟨j, hj⟩ := List.getElem?_of_mem he; exact right_ent hr hj) S bottom) (fun j h1 h2 x y hx hy => ?_)
  obtain ⟨hi, ei⟩ := List.getElem?_eq_some_iff.1 hx
  obtain ⟨hj, ej⟩ := List.getElem?_eq_some_iff.1 hy
  have := (List.pairwise_iff_getElem.1 hp) (j - 1) j hi hj (by omega)
  rw [ei, ej] at this
  exact this
theorem right_nil : rightB [] = true := rfl
theorem squash_none (S : List Int) (bottom : Bool) : squashL [] S bottom = [] := by unfold squashL; rw [if_pos right_nil]; rfl
/-- A great number among what is left comes of a great number that was drawn. -/
theorem big_first {L : List EntD} (hD : DrOk L) (hr : rightB L = true) (S : List Int) (bottom : Bool) {e : EntD} (he : e ∈ squashL L S bottom) (hb : ¬ Lit2 e) : ∃ e0 R, L = e0 :: R ∧ (e0.2.2.2.2 = 1000000 ∨ e0.2.2.2.2 = -1000000) := by
  obtain ⟨h1, h2, h3, _⟩ := hD
  obtain ⟨h4, h5⟩ := h3 hr
  match L, h1, h4, h5, he with
  | [], _, _, _, he => rw [squash_none] at he; cases he
  | e0 :: R, h1, h4, h5, he =>
    refine ⟨e0, R, rfl, ?_⟩
    rcases h5 e0 rfl with h | h
    · exfalso
      refine hb (squash_lits (fun x hx => ?_) (by omega) S bottom e he)
      rcases List.mem_cons.1 hx with rfl | hx
      · exact h
      · exact h4 x hx
    · exact h
theorem own_ents {w : World} {base : Nat} {ag : Option Addr} {n c : Nat} {F : List EntD} (h : OwnO w base ag n c F) {k : Nat} (hk : k < n) : ∃ b0 o0, ag = some ⟨b0, o0, none⟩ ∧ b0 < w.heap.size := h.entsAt.form (by omega)

set_option maxRecDepth 100000 in
set_option maxHeartbeats 8000000 in
theorem walkFnSquashTwice (a : Option Addr) (len cap : Nat) (w : World) (h : BytesAt w a len cap) :
    Calls Try.prog 8 #[.slice a len cap] w fun e w' => e = .returned (.bool true) ∧ Below w.heap.size w w' := by
  by_cases hl : len ≤ 1048576
  · have hlI : ¬ (1048576 : Int) < (len : Int) := by omega
    have CD := drawSq_any a len cap w h
    clear h
    go_enter Try.func8, Try.ntmps8
    go_wp2_with fail
    refine CD.mono ?_
    rintro e w1 ⟨g, n, c, L, gs, m, cs, S, b, rfl, hO, hN, hD, hm, hS, hgs, hb1⟩
    have HB1 : Hid (Below w.heap.size w w1) := hb1
    have HO1 : Hid (OwnE w1 w.heap.size g n c L) := hO
    have HN1 : Hid (OwnN w1 w.heap.size gs m cs S) := hN
    have HLN : Hid (L.length = n) := hO.len
    have hn15 : n ≤ 15 := by have h1 := hO.len; have h2 := hD.1; omega
    have HD : Hid (DrOk L) := hD
    have CI := callsIn_wide.1 (implSquash _ g 0 n c L _ _ _ S b w1 hO.entsAt hN.ints (by omega) (by omega) hO.lt.2)
    have CS : Hid (∀ (lo : Nat) (w' : World), EntsAt w' (some ⟨g, 0, none⟩) n c L → IntsIn lo w' (some ⟨gs, 0, none⟩) m cs S → Calls Try.prog 12 #[.slice (some ⟨g, 0, none⟩) n c, .slice (some ⟨gs, 0, none⟩) m cs, .bool b] w' fun e w'' => ∃ g' n' c', e = .returned (.slice (some ⟨g', 0, none⟩) n' c') ∧ OwnE w'' w'.heap.size g' n' c' (squashL L S b) ∧ Below w'.heap.size w' w'') := fun lo w' h1 h2 => specSquash lo _ _ _ L _ _ _ S b w' h1 h2 (by omega)
    have HFL : Hid ((squashL L S b).length ≤ n) := by have := squashL_len L S b; show (squashL L S b).length ≤ n; rw [HLN.out] at this; exact this
    have HRF : Hid (rightB (squashL L S b) = true) := by
      show rightB (squashL L S b) = true
      by_cases hr : rightB L = true
      · exact right_squash hr S b
      · unfold squashL; rw [if_neg hr]; rfl
    have HBF : Hid (∀ e ∈ squashL L S b, ¬ Lit2 e → ∃ e0 R, L = e0 :: R ∧ (e0.2.2.2.2 = 1000000 ∨ e0.2.2.2.2 = -1000000)) := fun e he hb => by
      by_cases hr : rightB L = true
      · exact big_first HD.out hr S b he hb
      · unfold squashL at he; rw [if_neg hr] at he; cases he
    have HAG : Hid ((∀ e ∈ squashL L S b, Lit2 e) → squashL (squashL L S b) S b = squashL L S b) := fun hN => by
      by_cases hr : rightB L = true
      · exact squash_again hr (by have := HLN.out; omega) S b (right_squash hr S b) hN
      · have e : squashL L S b = [] := by unfold squashL; rw [if_neg hr]
        rw [e, squash_none]
    obtain ⟨F, hF⟩ : ∃ F, squashL L S b = F := ⟨_, rfl⟩
    rw [hF] at CS HFL HRF HBF HAG CI
    have HON : Hid ((∀ e ∈ F, Lit2 e) → (squashL F [] b).Pairwise (fun a b => a.1 ≠ b.1)) := fun hN => squash_one HRF.out (by have := HFL.out; omega) b hN
    have HPF : Hid (F.Pairwise (fun a b => lessB a.1 a.2.1 b.1 b.2.1 = true)) := right_pair HRF.out
    clear hb1 hO hN CD hF hD hS hl hlI
    go_wp2_with fail
    refine CI.mono ?_
    rintro e w2 ⟨ag, ng, cg, rfl, hG2, hb2⟩
    have T2 : Hid (FqSt w w2 g n c gs m cs ag ng cg L S F) := ⟨HB1.out.trans (hb2.mono HB1.out.size), HO1.out.below hb2, HN1.out.below hb2, hG2.mono HB1.out.size⟩
    have hng : ng ≤ n := by have h1 := hG2.len; have h2 := HFL.out; omega
    have HGL : Hid (F.length = ng) := hG2.len
    clear hG2 hb2 HB1 HO1 HN1 CI HFL
    go_wp2_with fail
    refine (CS.out _ _ T2.out.ol.entsAt T2.out.ot.ints).mono ?_
    rintro e w3 ⟨gw, nw, cw, rfl, hW3, hb3⟩
    have T3 : Hid (FqSt w w3 g n c gs m cs ag ng cg L S F) := T2.out.below hb3
    have HW3 : Hid (EntsAt w3 (some ⟨gw, 0, none⟩) nw cw F) := hW3.entsAt
    clear T2 hW3 hb3 CS
    go_wp2_with fail
    refine (wpEnts_any _ _ _ _ _ _ F F _ T3.out.og.entsAt HW3.out).mono ?_
    rintro e w4 ⟨rfl, hb4⟩
    have T4 : Hid (FqSt w w4 g n c gs m cs ag ng cg L S F) := T3.out.below hb4
    have hFF : decide (F = F) = true := by simp
    rw [hFF]
    clear T3 HW3 hb4 hFF
    go_wp2
    go_loopw [7] (fun iv wr => ∃ i : Nat, i ≤ ng ∧ iv = .int .i64 i ∧ FqSt w wr g n c gs m cs ag ng cg L S F ∧ (∀ j e, j < i → F[j]? = some e → Lit2 e)) (fun iv _ => ng - (intOf iv).toNat)
    case atStart => exact ⟨0, Nat.zero_le _, rfl, T4.out, fun j e h => absurd h (Nat.not_lt_zero _)⟩
    case round =>
      clear T4
      obtain ⟨i, hin, rfl, hT, hlit⟩ := hrel
      have HT : Hid (FqSt w wr g n c gs m cs ag ng cg L S F) := hT
      have HLT : Hid (∀ j e, j < i → F[j]? = some e → Lit2 e) := hlit
      clear hT hlit
      by_cases hil : i < ng
      · have hilI : (i : Int) < (ng : Int) := by omega
        obtain ⟨b0, o0, rfl, hb0⟩ := own_ents HT.out.og hil
        obtain ⟨s', q', d', t', mm', hy, hew, e0, e1, e2, e3, e4⟩ := HT.out.og.entsAt.ent (Below.refl _ wr) hb0 i hil
        have HY : Hid (F[i]? = some (s', q', d', t', mm')) := hy
        have HEN : Hid (entB s' q' d' t' mm' = true) := right_ent HRF.out hy
        have hks : s'.size ≤ maxLen := hew.1
        have k0 : Below wr.heap.size wr wr.drew := (Below.refl _ wr).drew
        by_cases hi0 : i = 0
        · subst hi0
          have HMK : Hid (∀ w', Below wr.heap.size wr w' → (w'.cell? ⟨b0, o0 + 0 * 5, none⟩ = some (.string s') ∧ w'.cell? ⟨b0, o0 + 0 * 5 + 1, none⟩ = some (.int .i64 q') ∧ w'.cell? ⟨b0, o0 + 0 * 5 + 2, none⟩ = some (.int .i64 d') ∧ w'.cell? ⟨b0, o0 + 0 * 5 + 3, none⟩ = some (.string t') ∧ w'.cell? ⟨b0, o0 + 0 * 5 + 4, none⟩ = some (.int .i64 mm') ∧ b0 < w'.heap.size)) := fun w' kk => ⟨cell_later kk e0, cell_later kk e1, cell_later kk e2, cell_later kk e3, cell_later kk e4, Nat.lt_of_lt_of_le hb0 kk.size⟩
          simp only [Nat.zero_mul, Nat.add_zero] at HMK
          clear hy hew e0 e1 e2 e3 e4
          by_cases hbg : 2000 < mm'
          · have hbgB : mm' > 2000 := hbg
            have HV : Hid (¬ Lit2 (s', q', d', t', mm')) := by show ¬ (_ ∧ _); simp only; omega
            obtain ⟨f0, R0, hL0, hf0⟩ := HBF.out _ (List.mem_of_getElem? HY.out) HV.out
            obtain ⟨fs, fq, fd, ft, fm⟩ := f0
            simp only at hf0
            subst hL0
            have hnp : 0 < n := by rw [← HLN.out]; simp
            have hnpI : (0 : Int) < (n : Int) := by omega
            go_wp2_with fail
            refine wp_region_held_drew (S := (fun w' => w'.cell? ⟨b0, o0, none⟩ = some (.string s') ∧ w'.cell? ⟨b0, o0 + 1, none⟩ = some (.int .i64 q') ∧ w'.cell? ⟨b0, o0 + 2, none⟩ = some (.int .i64 d') ∧ w'.cell? ⟨b0, o0 + 3, none⟩ = some (.string t') ∧ w'.cell? ⟨b0, o0 + 4, none⟩ = some (.int .i64 mm') ∧ b0 < w'.heap.size)) (by kernel_rfl) (HMK.out _ k0) (fun hHeld => ?_)
            refine wpAnyH_takeL (i := 0) (v := ?_) rfl (by kernel_rfl) (by kernel_rfl) (by kernel_rfl) (fun _ _ _ h => h) (Or.inl ⟨by rfl, ?_⟩) hHeld ?_
            rotate_left
            · (intro w hSw; (try dsimp only at hSw); go_simp; try with_reducible rfl)
            try go_frame
            refine wpAnyH_takeL (i := 1) (v := ?_) rfl (by kernel_rfl) (by kernel_rfl) (by kernel_rfl) (fun _ _ _ h => h) (Or.inl ⟨by rfl, ?_⟩) hHeld ?_
            rotate_left
            · (intro w hSw; (try dsimp only at hSw); go_simp; try with_reducible rfl)
            try go_frame
            refine wpAnyH_takeL (i := 2) (v := ?_) rfl (by kernel_rfl) (by kernel_rfl) (by kernel_rfl) (fun _ _ _ h => h) (Or.inl ⟨by rfl, ?_⟩) hHeld ?_
            rotate_left
            · (intro w hSw; (try dsimp only at hSw); go_simp; try with_reducible rfl)
            try go_frame
            refine wpAnyH_takeL (i := 3) (v := ?_) rfl (by kernel_rfl) (by kernel_rfl) (by kernel_rfl) (fun _ _ _ h => h) (Or.inl ⟨by rfl, ?_⟩) hHeld ?_
            rotate_left
            · (intro w hSw; (try dsimp only at hSw); go_simp; try with_reducible rfl)
            try go_frame
            refine wpAnyH_ready (rs := [4]) (by kernel_rfl) (by simp) ?_
            refine consL rfl (fun K hK => ?_) AllReadyH.nil
            go_simp
            refine (implEnt s' t' q' d' mm' _ hks).mono ?_
            rintro e w1 ⟨rfl, b1'⟩
            rw [HEN.out]
            have k1 : Below wr.heap.size wr w1 := k0.trans (b1'.mono k0.size)
            go_wp2_with fail
            refine hK.out _ _ (HMK.out _ k1) (fun hHeld => ?_)
            clear hK K
            try go_frame
            refine wpAnyH_takeL (i := 5) (v := ?_) rfl (by kernel_rfl) (by kernel_rfl) (by kernel_rfl) (fun _ _ _ h => h) (Or.inl ⟨by rfl, ?_⟩) hHeld ?_
            rotate_left
            · (intro w hSw; (try dsimp only at hSw); go_simp; try with_reducible rfl)
            try go_frame
            refine wpAnyH_takeL (i := 6) (v := ?_) rfl (by kernel_rfl) (by kernel_rfl) (by kernel_rfl) (fun _ _ _ h => h) (Or.inl ⟨by rfl, ?_⟩) hHeld ?_
            rotate_left
            · (intro w hSw; (try dsimp only at hSw); go_simp; try with_reducible rfl)
            try go_frame
            refine wpAnyH_takeL (i := 7) (v := ?_) rfl (by kernel_rfl) (by kernel_rfl) (by kernel_rfl) (fun _ _ _ h => h) (Or.inl ⟨by rfl, ?_⟩) hHeld ?_
            rotate_left
            · (intro w hSw; (try dsimp only at hSw); go_simp; try with_reducible rfl)
            try go_frame
            refine wpAnyH_takeL (i := 8) (v := ?_) rfl (by kernel_rfl) (by kernel_rfl) (by kernel_rfl) (fun _ _ _ h => h) (Or.inl ⟨by rfl, ?_⟩) hHeld ?_
            rotate_left
            · (intro w hSw; (try dsimp only at hSw); go_simp; try with_reducible rfl)
            try go_frame
            refine wpAnyH_takeL (i := 9) (v := ?_) rfl (by kernel_rfl) (by kernel_rfl) (by kernel_rfl) (fun _ _ _ h => h) (Or.inl ⟨by rfl, ?_⟩) hHeld ?_
            rotate_left
            · (intro w hSw; (try dsimp only at hSw); go_simp; try with_reducible rfl)
            try go_frame
            refine wpAnyH_takeL (i := 10) (v := undef) rfl (by kernel_rfl) (by kernel_rfl) (by kernel_rfl) (fun _ _ _ h => h) (Or.inr ⟨by rfl, rfl⟩) hHeld ?_
            try go_frame
            refine wpAnyH_takeL (i := 11) (v := undef) rfl (by kernel_rfl) (by kernel_rfl) (by kernel_rfl) (fun _ _ _ h => h) (Or.inr ⟨by rfl, rfl⟩) hHeld ?_
            try go_frame
            refine wpAnyH_takeL (i := 12) (v := undef) rfl (by kernel_rfl) (by kernel_rfl) (by kernel_rfl) (fun _ _ _ h => h) (Or.inr ⟨by rfl, rfl⟩) hHeld ?_
            try go_frame
            refine wpAnyH_takeL (i := 13) (v := undef) rfl (by kernel_rfl) (by kernel_rfl) (by kernel_rfl) (fun _ _ _ h => h) (Or.inr ⟨by rfl, rfl⟩) hHeld ?_
            try go_frame
            refine wpAnyH_takeL (i := 14) (v := undef) rfl (by kernel_rfl) (by kernel_rfl) (by kernel_rfl) (fun _ _ _ h => h) (Or.inr ⟨by rfl, rfl⟩) hHeld ?_
            try go_frame
            refine wpAnyH_takeL (i := 15) (v := undef) rfl (by kernel_rfl) (by kernel_rfl) (by kernel_rfl) (fun _ _ _ h => h) (Or.inr ⟨by rfl, rfl⟩) hHeld ?_
            try go_frame
            refine wpAnyH_takeL (i := 16) (v := undef) rfl (by kernel_rfl) (by kernel_rfl) (by kernel_rfl) (fun _ _ _ h => h) (Or.inr ⟨by rfl, rfl⟩) hHeld ?_
            try go_frame
            refine wpAnyH_takeL (i := 17) (v := undef) rfl (by kernel_rfl) (by kernel_rfl) (by kernel_rfl) (fun _ _ _ h => h) (Or.inr ⟨by rfl, rfl⟩) hHeld ?_
            try go_frame
            refine wpAnyH_takeL (i := 18) (v := undef) rfl (by kernel_rfl) (by kernel_rfl) (by kernel_rfl) (fun _ _ _ h => h) (Or.inr ⟨by rfl, rfl⟩) hHeld ?_
            try go_frame
            refine wpAnyH_ready (rs := [19]) (by kernel_rfl) (by simp) ?_
            refine consL rfl (fun K hK => ?_) AllReadyH.nil
            go_simp
            refine hK.out _ _ (HMK.out _ k1) (fun hHeld => ?_)
            clear hK K
            try go_frame
            refine wpAnyH_takeL (i := 20) (v := undef) rfl (by kernel_rfl) (by kernel_rfl) (by kernel_rfl) (fun _ _ _ h => h) (Or.inr ⟨by rfl, rfl⟩) hHeld ?_
            try go_frame
            refine wpAnyH_takeL (i := 21) (v := ?_) rfl (by kernel_rfl) (by kernel_rfl) (by kernel_rfl) (fun _ _ _ h => h) (Or.inl ⟨by rfl, ?_⟩) hHeld ?_
            rotate_left
            · (intro w hSw; (try dsimp only at hSw); go_simp; try with_reducible rfl)
            try go_frame
            refine wpAnyH_takeL (i := 22) (v := ?_) rfl (by kernel_rfl) (by kernel_rfl) (by kernel_rfl) (fun _ _ _ h => h) (Or.inl ⟨by rfl, ?_⟩) hHeld ?_
            rotate_left
            · (intro w hSw; (try dsimp only at hSw); go_simp; try with_reducible rfl)
            try go_frame
            refine wpAnyH_takeL (i := 23) (v := ?_) rfl (by kernel_rfl) (by kernel_rfl) (by kernel_rfl) (fun _ _ _ h => h) (Or.inl ⟨by rfl, ?_⟩) hHeld ?_
            rotate_left
            · (intro w hSw; (try dsimp only at hSw); go_simp; try with_reducible rfl)
            try go_frame
            refine wpAnyH_takeL (i := 24) (v := ?_) rfl (by kernel_rfl) (by kernel_rfl) (by kernel_rfl) (fun _ _ _ h => h) (Or.inl ⟨by rfl, ?_⟩) hHeld ?_
            rotate_left
            · (intro w hSw; (try dsimp only at hSw); go_simp; try with_reducible rfl)
            try go_frame
            refine wpAnyH_takeL (i := 25) (v := ?_) rfl (by kernel_rfl) (by kernel_rfl) (by kernel_rfl) (fun _ _ _ h => h) (Or.inl ⟨by rfl, ?_⟩) hHeld ?_
            rotate_left
            · (intro w hSw; (try dsimp only at hSw); go_simp; try with_reducible rfl)
            try go_frame
            refine wpAnyH_takeL (i := 26) (v := ?_) rfl (by kernel_rfl) (by kernel_rfl) (by kernel_rfl) (fun _ _ _ h => h) (Or.inl ⟨by rfl, ?_⟩) hHeld ?_
            rotate_left
            · (intro w hSw; (try dsimp only at hSw); go_simp; try with_reducible rfl)
            try go_frame
            refine wpAnyH_takeL (i := 27) (v := ?_) rfl (by kernel_rfl) (by kernel_rfl) (by kernel_rfl) (fun _ _ _ h => h) (Or.inl ⟨by rfl, ?_⟩) hHeld ?_
            rotate_left
            · (intro w hSw; (try dsimp only at hSw); go_simp; try with_reducible rfl)
            try go_frame
            refine wpAnyH_takeL (i := 28) (v := ?_) rfl (by kernel_rfl) (by kernel_rfl) (by kernel_rfl) (fun _ _ _ h => h) (Or.inl ⟨by rfl, ?_⟩) hHeld ?_
            rotate_left
            · (intro w hSw; (try dsimp only at hSw); go_simp; try with_reducible rfl)
            try go_frame
            refine wpAnyH_takeL (i := 29) (v := ?_) rfl (by kernel_rfl) (by kernel_rfl) (by kernel_rfl) (fun _ _ _ h => h) (Or.inl ⟨by rfl, ?_⟩) hHeld ?_
            rotate_left
            · (intro w hSw; (try dsimp only at hSw); go_simp; try with_reducible rfl)
            try go_frame
            refine wpAnyH_takeL (i := 30) (v := ?_) rfl (by kernel_rfl) (by kernel_rfl) (by kernel_rfl) (fun _ _ _ h => h) (Or.inl ⟨by rfl, ?_⟩) hHeld ?_
            rotate_left
            · (intro w hSw; (try dsimp only at hSw); go_simp; try with_reducible rfl)
            try go_frame
            refine wpAnyH_takeL (i := 31) (v := ?_) rfl (by kernel_rfl) (by kernel_rfl) (by kernel_rfl) (fun _ _ _ h => h) (Or.inl ⟨by rfl, ?_⟩) hHeld ?_
            rotate_left
            · (intro w hSw; (try dsimp only at hSw); go_simp; try with_reducible rfl)
            try go_frame
            refine wpAnyH_takeL (i := 32) (v := undef) rfl (by kernel_rfl) (by kernel_rfl) (by kernel_rfl) (fun _ _ _ h => h) (Or.inr ⟨by rfl, rfl⟩) hHeld ?_
            try go_frame
            refine wpAnyH_takeL (i := 33) (v := undef) rfl (by kernel_rfl) (by kernel_rfl) (by kernel_rfl) (fun _ _ _ h => h) (Or.inr ⟨by rfl, rfl⟩) hHeld ?_
            try go_frame
            refine wpAnyH_takeL (i := 34) (v := undef) rfl (by kernel_rfl) (by kernel_rfl) (by kernel_rfl) (fun _ _ _ h => h) (Or.inr ⟨by rfl, rfl⟩) hHeld ?_
            try go_frame
            refine wpAnyH_takeL (i := 35) (v := undef) rfl (by kernel_rfl) (by kernel_rfl) (by kernel_rfl) (fun _ _ _ h => h) (Or.inr ⟨by rfl, rfl⟩) hHeld ?_
            try go_frame
            refine wpAnyH_takeL (i := 36) (v := undef) rfl (by kernel_rfl) (by kernel_rfl) (by kernel_rfl) (fun _ _ _ h => h) (Or.inr ⟨by rfl, rfl⟩) hHeld ?_
            try go_frame
            refine wpAnyH_takeL (i := 37) (v := undef) rfl (by kernel_rfl) (by kernel_rfl) (by kernel_rfl) (fun _ _ _ h => h) (Or.inr ⟨by rfl, rfl⟩) hHeld ?_
            try go_frame
            refine wpAnyH_takeL (i := 38) (v := ?_) rfl (by kernel_rfl) (by kernel_rfl) (by kernel_rfl) (fun _ _ _ h => h) (Or.inl ⟨by rfl, ?_⟩) hHeld ?_
            rotate_left
            · (intro w hSw; (try dsimp only at hSw); go_simp; try with_reducible rfl)
            try go_frame
            refine wpAnyH_done (by kernel_rfl) ?_ _
            clear HMK hHeld
            have TV : Hid (FqSt w w1 g n c gs m cs (some ⟨b0, o0, none⟩) ng cg ((fs, fq, fd, ft, fm) :: R0) S F) := HT.out.below k1
            obtain ⟨_, _, _, _, x4⟩ := TV.out.ol.entsAt.cells _ rfl 0 (by simp)
            simp only [Nat.zero_mul, Nat.add_zero, Nat.zero_add, List.getElem_cons_zero] at x4
            have zg := TV.out.ol.lt.2
            clear k0 k1
            rcases hf0 with rfl | rfl
            · go_wp2
              go_ret
              exact ⟨rfl, TV.out.all⟩
            · go_wp2
              go_ret
              exact ⟨rfl, TV.out.all⟩
          · have hbgN : mm' ≤ 2000 := by omega
            have hbgD : decide (2000 < mm') = false := decide_eq_false hbg
            by_cases hsm : mm' < -2000
            · have HV : Hid (¬ Lit2 (s', q', d', t', mm')) := by show ¬ (_ ∧ _); simp only; omega
              obtain ⟨f0, R0, hL0, hf0⟩ := HBF.out _ (List.mem_of_getElem? HY.out) HV.out
              obtain ⟨fs, fq, fd, ft, fm⟩ := f0
              simp only at hf0
              subst hL0
              have hnp : 0 < n := by rw [← HLN.out]; simp
              have hnpI : (0 : Int) < (n : Int) := by omega
              go_wp2_with fail
              refine wp_region_held_drew (S := (fun w' => w'.cell? ⟨b0, o0, none⟩ = some (.string s') ∧ w'.cell? ⟨b0, o0 + 1, none⟩ = some (.int .i64 q') ∧ w'.cell? ⟨b0, o0 + 2, none⟩ = some (.int .i64 d') ∧ w'.cell? ⟨b0, o0 + 3, none⟩ = some (.string t') ∧ w'.cell? ⟨b0, o0 + 4, none⟩ = some (.int .i64 mm') ∧ b0 < w'.heap.size)) (by kernel_rfl) (HMK.out _ k0) (fun hHeld => ?_)
              refine wpAnyH_takeL (i := 0) (v := ?_) rfl (by kernel_rfl) (by kernel_rfl) (by kernel_rfl) (fun _ _ _ h => h) (Or.inl ⟨by rfl, ?_⟩) hHeld ?_
              rotate_left
              · (intro w hSw; (try dsimp only at hSw); go_simp; try with_reducible rfl)
              try go_frame
              refine wpAnyH_takeL (i := 1) (v := ?_) rfl (by kernel_rfl) (by kernel_rfl) (by kernel_rfl) (fun _ _ _ h => h) (Or.inl ⟨by rfl, ?_⟩) hHeld ?_
              rotate_left
              · (intro w hSw; (try dsimp only at hSw); go_simp; try with_reducible rfl)
              try go_frame
              refine wpAnyH_takeL (i := 2) (v := ?_) rfl (by kernel_rfl) (by kernel_rfl) (by kernel_rfl) (fun _ _ _ h => h) (Or.inl ⟨by rfl, ?_⟩) hHeld ?_
              rotate_left
              · (intro w hSw; (try dsimp only at hSw); go_simp; try with_reducible rfl)
              try go_frame
              refine wpAnyH_takeL (i := 3) (v := ?_) rfl (by kernel_rfl) (by kernel_rfl) (by kernel_rfl) (fun _ _ _ h => h) (Or.inl ⟨by rfl, ?_⟩) hHeld ?_
              rotate_left
              · (intro w hSw; (try dsimp only at hSw); go_simp; try with_reducible rfl)
              try go_frame
              refine wpAnyH_ready (rs := [4]) (by kernel_rfl) (by simp) ?_
              refine consL rfl (fun K hK => ?_) AllReadyH.nil
              go_simp
              refine (implEnt s' t' q' d' mm' _ hks).mono ?_
              rintro e w1 ⟨rfl, b1'⟩
              rw [HEN.out]
              have k1 : Below wr.heap.size wr w1 := k0.trans (b1'.mono k0.size)
              go_wp2_with fail
              refine hK.out _ _ (HMK.out _ k1) (fun hHeld => ?_)
              clear hK K
              try go_frame
              refine wpAnyH_takeL (i := 5) (v := ?_) rfl (by kernel_rfl) (by kernel_rfl) (by kernel_rfl) (fun _ _ _ h => h) (Or.inl ⟨by rfl, ?_⟩) hHeld ?_
              rotate_left
              · (intro w hSw; (try dsimp only at hSw); go_simp; try with_reducible rfl)
              try go_frame
              refine wpAnyH_takeL (i := 6) (v := ?_) rfl (by kernel_rfl) (by kernel_rfl) (by kernel_rfl) (fun _ _ _ h => h) (Or.inl ⟨by rfl, ?_⟩) hHeld ?_
              rotate_left
              · (intro w hSw; (try dsimp only at hSw); go_simp; try with_reducible rfl)
              try go_frame
              refine wpAnyH_takeL (i := 7) (v := ?_) rfl (by kernel_rfl) (by kernel_rfl) (by kernel_rfl) (fun _ _ _ h => h) (Or.inl ⟨by rfl, ?_⟩) hHeld ?_
              rotate_left
              · (intro w hSw; (try dsimp only at hSw); go_simp; try with_reducible rfl)
              try go_frame
              refine wpAnyH_takeL (i := 8) (v := ?_) rfl (by kernel_rfl) (by kernel_rfl) (by kernel_rfl) (fun _ _ _ h => h) (Or.inl ⟨by rfl, ?_⟩) hHeld ?_
              rotate_left
              · (intro w hSw; (try dsimp only at hSw); go_simp; try with_reducible rfl)
              try go_frame
              refine wpAnyH_takeL (i := 9) (v := ?_) rfl (by kernel_rfl) (by kernel_rfl) (by kernel_rfl) (fun _ _ _ h => h) (Or.inl ⟨by rfl, ?_⟩) hHeld ?_
              rotate_left
              · (intro w hSw; (try dsimp only at hSw); go_simp; try with_reducible rfl)
              try go_frame
              refine wpAnyH_takeL (i := 10) (v := undef) rfl (by kernel_rfl) (by kernel_rfl) (by kernel_rfl) (fun _ _ _ h => h) (Or.inr ⟨by rfl, rfl⟩) hHeld ?_
              try go_frame
              refine wpAnyH_takeL (i := 11) (v := undef) rfl (by kernel_rfl) (by kernel_rfl) (by kernel_rfl) (fun _ _ _ h => h) (Or.inr ⟨by rfl, rfl⟩) hHeld ?_
              try go_frame
              refine wpAnyH_takeL (i := 12) (v := undef) rfl (by kernel_rfl) (by kernel_rfl) (by kernel_rfl) (fun _ _ _ h => h) (Or.inr ⟨by rfl, rfl⟩) hHeld ?_
              try go_frame
              refine wpAnyH_takeL (i := 13) (v := undef) rfl (by kernel_rfl) (by kernel_rfl) (by kernel_rfl) (fun _ _ _ h => h) (Or.inr ⟨by rfl, rfl⟩) hHeld ?_
              try go_frame
              refine wpAnyH_takeL (i := 14) (v := undef) rfl (by kernel_rfl) (by kernel_rfl) (by kernel_rfl) (fun _ _ _ h => h) (Or.inr ⟨by rfl, rfl⟩) hHeld ?_
              try go_frame
              refine wpAnyH_takeL (i := 15) (v := undef) rfl (by kernel_rfl) (by kernel_rfl) (by kernel_rfl) (fun _ _ _ h => h) (Or.inr ⟨by rfl, rfl⟩) hHeld ?_
              try go_frame
              refine wpAnyH_takeL (i := 16) (v := undef) rfl (by kernel_rfl) (by kernel_rfl) (by kernel_rfl) (fun _ _ _ h => h) (Or.inr ⟨by rfl, rfl⟩) hHeld ?_
              try go_frame
              refine wpAnyH_takeL (i := 17) (v := undef) rfl (by kernel_rfl) (by kernel_rfl) (by kernel_rfl) (fun _ _ _ h => h) (Or.inr ⟨by rfl, rfl⟩) hHeld ?_
              try go_frame
              refine wpAnyH_takeL (i := 18) (v := undef) rfl (by kernel_rfl) (by kernel_rfl) (by kernel_rfl) (fun _ _ _ h => h) (Or.inr ⟨by rfl, rfl⟩) hHeld ?_
              try go_frame
              refine wpAnyH_ready (rs := [19]) (by kernel_rfl) (by simp) ?_
              refine consL rfl (fun K hK => ?_) AllReadyH.nil
              go_simp
              refine hK.out _ _ (HMK.out _ k1) (fun hHeld => ?_)
              clear hK K
              try go_frame
              refine wpAnyH_takeL (i := 20) (v := undef) rfl (by kernel_rfl) (by kernel_rfl) (by kernel_rfl) (fun _ _ _ h => h) (Or.inr ⟨by rfl, rfl⟩) hHeld ?_
              try go_frame
              refine wpAnyH_takeL (i := 21) (v := ?_) rfl (by kernel_rfl) (by kernel_rfl) (by kernel_rfl) (fun _ _ _ h => h) (Or.inl ⟨by rfl, ?_⟩) hHeld ?_
              rotate_left
              · (intro w hSw; (try dsimp only at hSw); go_simp; try with_reducible rfl)
              try go_frame
              refine wpAnyH_takeL (i := 22) (v := ?_) rfl (by kernel_rfl) (by kernel_rfl) (by kernel_rfl) (fun _ _ _ h => h) (Or.inl ⟨by rfl, ?_⟩) hHeld ?_
              rotate_left
              · (intro w hSw; (try dsimp only at hSw); go_simp; try with_reducible rfl)
              try go_frame
              refine wpAnyH_takeL (i := 23) (v := ?_) rfl (by kernel_rfl) (by kernel_rfl) (by kernel_rfl) (fun _ _ _ h => h) (Or.inl ⟨by rfl, ?_⟩) hHeld ?_
              rotate_left
              · (intro w hSw; (try dsimp only at hSw); go_simp; try with_reducible rfl)
              try go_frame
              refine wpAnyH_takeL (i := 24) (v := ?_) rfl (by kernel_rfl) (by kernel_rfl) (by kernel_rfl) (fun _ _ _ h => h) (Or.inl ⟨by rfl, ?_⟩) hHeld ?_
              rotate_left
              · (intro w hSw; (try dsimp only at hSw); go_simp; try with_reducible rfl)
              try go_frame
              refine wpAnyH_takeL (i := 25) (v := ?_) rfl (by kernel_rfl) (by kernel_rfl) (by kernel_rfl) (fun _ _ _ h => h) (Or.inl ⟨by rfl, ?_⟩) hHeld ?_
              rotate_left
              · (intro w hSw; (try dsimp only at hSw); go_simp; try with_reducible rfl)
              try go_frame
              refine wpAnyH_takeL (i := 26) (v := ?_) rfl (by kernel_rfl) (by kernel_rfl) (by kernel_rfl) (fun _ _ _ h => h) (Or.inl ⟨by rfl, ?_⟩) hHeld ?_
              rotate_left
              · (intro w hSw; (try dsimp only at hSw); go_simp; try with_reducible rfl)
              try go_frame
              refine wpAnyH_takeL (i := 27) (v := ?_) rfl (by kernel_rfl) (by kernel_rfl) (by kernel_rfl) (fun _ _ _ h => h) (Or.inl ⟨by rfl, ?_⟩) hHeld ?_
              rotate_left
              · (intro w hSw; (try dsimp only at hSw); go_simp; try with_reducible rfl)
              try go_frame
              refine wpAnyH_takeL (i := 28) (v := ?_) rfl (by kernel_rfl) (by kernel_rfl) (by kernel_rfl) (fun _ _ _ h => h) (Or.inl ⟨by rfl, ?_⟩) hHeld ?_
              rotate_left
              · (intro w hSw; (try dsimp only at hSw); go_simp; try with_reducible rfl)
              try go_frame
              refine wpAnyH_takeL (i := 29) (v := ?_) rfl (by kernel_rfl) (by kernel_rfl) (by kernel_rfl) (fun _ _ _ h => h) (Or.inl ⟨by rfl, ?_⟩) hHeld ?_
              rotate_left
              · (intro w hSw; (try dsimp only at hSw); go_simp; try with_reducible rfl)
              try go_frame
              refine wpAnyH_takeL (i := 30) (v := ?_) rfl (by kernel_rfl) (by kernel_rfl) (by kernel_rfl) (fun _ _ _ h => h) (Or.inl ⟨by rfl, ?_⟩) hHeld ?_
              rotate_left
              · (intro w hSw; (try dsimp only at hSw); go_simp; try with_reducible rfl)
              try go_frame
              refine wpAnyH_takeL (i := 31) (v := ?_) rfl (by kernel_rfl) (by kernel_rfl) (by kernel_rfl) (fun _ _ _ h => h) (Or.inl ⟨by rfl, ?_⟩) hHeld ?_
              rotate_left
              · (intro w hSw; (try dsimp only at hSw); go_simp; try with_reducible rfl)
              try go_frame
              refine wpAnyH_takeL (i := 32) (v := ?_) rfl (by kernel_rfl) (by kernel_rfl) (by kernel_rfl) (fun _ _ _ h => h) (Or.inl ⟨by rfl, ?_⟩) hHeld ?_
              rotate_left
              · (intro w hSw; (try dsimp only at hSw); go_simp; try with_reducible rfl)
              try go_frame
              refine wpAnyH_takeL (i := 33) (v := ?_) rfl (by kernel_rfl) (by kernel_rfl) (by kernel_rfl) (fun _ _ _ h => h) (Or.inl ⟨by rfl, ?_⟩) hHeld ?_
              rotate_left
              · (intro w hSw; (try dsimp only at hSw); go_simp; try with_reducible rfl)
              try go_frame
              refine wpAnyH_takeL (i := 34) (v := ?_) rfl (by kernel_rfl) (by kernel_rfl) (by kernel_rfl) (fun _ _ _ h => h) (Or.inl ⟨by rfl, ?_⟩) hHeld ?_
              rotate_left
              · (intro w hSw; (try dsimp only at hSw); go_simp; try with_reducible rfl)
              try go_frame
              refine wpAnyH_takeL (i := 35) (v := ?_) rfl (by kernel_rfl) (by kernel_rfl) (by kernel_rfl) (fun _ _ _ h => h) (Or.inl ⟨by rfl, ?_⟩) hHeld ?_
              rotate_left
              · (intro w hSw; (try dsimp only at hSw); go_simp; try with_reducible rfl)
              try go_frame
              refine wpAnyH_takeL (i := 36) (v := ?_) rfl (by kernel_rfl) (by kernel_rfl) (by kernel_rfl) (fun _ _ _ h => h) (Or.inl ⟨by rfl, ?_⟩) hHeld ?_
              rotate_left
              · (intro w hSw; (try dsimp only at hSw); go_simp; try with_reducible rfl)
              try go_frame
              refine wpAnyH_takeL (i := 37) (v := ?_) rfl (by kernel_rfl) (by kernel_rfl) (by kernel_rfl) (fun _ _ _ h => h) (Or.inl ⟨by rfl, ?_⟩) hHeld ?_
              rotate_left
              · (intro w hSw; (try dsimp only at hSw); go_simp; try with_reducible rfl)
              try go_frame
              refine wpAnyH_takeL (i := 38) (v := ?_) rfl (by kernel_rfl) (by kernel_rfl) (by kernel_rfl) (fun _ _ _ h => h) (Or.inl ⟨by rfl, ?_⟩) hHeld ?_
              rotate_left
              · (intro w hSw; (try dsimp only at hSw); go_simp; try with_reducible rfl)
              try go_frame
              refine wpAnyH_done (by kernel_rfl) ?_ _
              clear HMK hHeld
              have TV : Hid (FqSt w w1 g n c gs m cs (some ⟨b0, o0, none⟩) ng cg ((fs, fq, fd, ft, fm) :: R0) S F) := HT.out.below k1
              obtain ⟨_, _, _, _, x4⟩ := TV.out.ol.entsAt.cells _ rfl 0 (by simp)
              simp only [Nat.zero_mul, Nat.add_zero, Nat.zero_add, List.getElem_cons_zero] at x4
              have zg := TV.out.ol.lt.2
              clear k0 k1
              rcases hf0 with rfl | rfl
              · go_wp2
                go_ret
                exact ⟨rfl, TV.out.all⟩
              · go_wp2
                go_ret
                exact ⟨rfl, TV.out.all⟩
            · have hsmD : decide (mm' < -2000) = false := decide_eq_false hsm
              go_wp2_with fail
              refine wp_region_held_drew (S := (fun w' => w'.cell? ⟨b0, o0, none⟩ = some (.string s') ∧ w'.cell? ⟨b0, o0 + 1, none⟩ = some (.int .i64 q') ∧ w'.cell? ⟨b0, o0 + 2, none⟩ = some (.int .i64 d') ∧ w'.cell? ⟨b0, o0 + 3, none⟩ = some (.string t') ∧ w'.cell? ⟨b0, o0 + 4, none⟩ = some (.int .i64 mm') ∧ b0 < w'.heap.size)) (by kernel_rfl) (HMK.out _ k0) (fun hHeld => ?_)
              refine wpAnyH_takeL (i := 0) (v := ?_) rfl (by kernel_rfl) (by kernel_rfl) (by kernel_rfl) (fun _ _ _ h => h) (Or.inl ⟨by rfl, ?_⟩) hHeld ?_
              rotate_left
              · (intro w hSw; (try dsimp only at hSw); go_simp; try with_reducible rfl)
              try go_frame
              refine wpAnyH_takeL (i := 1) (v := ?_) rfl (by kernel_rfl) (by kernel_rfl) (by kernel_rfl) (fun _ _ _ h => h) (Or.inl ⟨by rfl, ?_⟩) hHeld ?_
              rotate_left
              · (intro w hSw; (try dsimp only at hSw); go_simp; try with_reducible rfl)
              try go_frame
              refine wpAnyH_takeL (i := 2) (v := ?_) rfl (by kernel_rfl) (by kernel_rfl) (by kernel_rfl) (fun _ _ _ h => h) (Or.inl ⟨by rfl, ?_⟩) hHeld ?_
              rotate_left
              · (intro w hSw; (try dsimp only at hSw); go_simp; try with_reducible rfl)
              try go_frame
              refine wpAnyH_takeL (i := 3) (v := ?_) rfl (by kernel_rfl) (by kernel_rfl) (by kernel_rfl) (fun _ _ _ h => h) (Or.inl ⟨by rfl, ?_⟩) hHeld ?_
              rotate_left
              · (intro w hSw; (try dsimp only at hSw); go_simp; try with_reducible rfl)
              try go_frame
              refine wpAnyH_ready (rs := [4]) (by kernel_rfl) (by simp) ?_
              refine consL rfl (fun K hK => ?_) AllReadyH.nil
              go_simp
              refine (implEnt s' t' q' d' mm' _ hks).mono ?_
              rintro e w1 ⟨rfl, b1'⟩
              rw [HEN.out]
              have k1 : Below wr.heap.size wr w1 := k0.trans (b1'.mono k0.size)
              go_wp2_with fail
              refine hK.out _ _ (HMK.out _ k1) (fun hHeld => ?_)
              clear hK K
              try go_frame
              refine wpAnyH_takeL (i := 5) (v := ?_) rfl (by kernel_rfl) (by kernel_rfl) (by kernel_rfl) (fun _ _ _ h => h) (Or.inl ⟨by rfl, ?_⟩) hHeld ?_
              rotate_left
              · (intro w hSw; (try dsimp only at hSw); go_simp; try with_reducible rfl)
              try go_frame
              refine wpAnyH_takeL (i := 6) (v := ?_) rfl (by kernel_rfl) (by kernel_rfl) (by kernel_rfl) (fun _ _ _ h => h) (Or.inl ⟨by rfl, ?_⟩) hHeld ?_
              rotate_left
              · (intro w hSw; (try dsimp only at hSw); go_simp; try with_reducible rfl)
              try go_frame
              refine wpAnyH_takeL (i := 7) (v := ?_) rfl (by kernel_rfl) (by kernel_rfl) (by kernel_rfl) (fun _ _ _ h => h) (Or.inl ⟨by rfl, ?_⟩) hHeld ?_
              rotate_left
              · (intro w hSw; (try dsimp only at hSw); go_simp; try with_reducible rfl)
              try go_frame
              refine wpAnyH_takeL (i := 8) (v := ?_) rfl (by kernel_rfl) (by kernel_rfl) (by kernel_rfl) (fun _ _ _ h => h) (Or.inl ⟨by rfl, ?_⟩) hHeld ?_
              rotate_left
              · (intro w hSw; (try dsimp only at hSw); go_simp; try with_reducible rfl)
              try go_frame
              refine wpAnyH_takeL (i := 9) (v := ?_) rfl (by kernel_rfl) (by kernel_rfl) (by kernel_rfl) (fun _ _ _ h => h) (Or.inl ⟨by rfl, ?_⟩) hHeld ?_
              rotate_left
              · (intro w hSw; (try dsimp only at hSw); go_simp; try with_reducible rfl)
              try go_frame
              refine wpAnyH_takeL (i := 10) (v := undef) rfl (by kernel_rfl) (by kernel_rfl) (by kernel_rfl) (fun _ _ _ h => h) (Or.inr ⟨by rfl, rfl⟩) hHeld ?_
              try go_frame
              refine wpAnyH_takeL (i := 11) (v := undef) rfl (by kernel_rfl) (by kernel_rfl) (by kernel_rfl) (fun _ _ _ h => h) (Or.inr ⟨by rfl, rfl⟩) hHeld ?_
              try go_frame
              refine wpAnyH_takeL (i := 12) (v := undef) rfl (by kernel_rfl) (by kernel_rfl) (by kernel_rfl) (fun _ _ _ h => h) (Or.inr ⟨by rfl, rfl⟩) hHeld ?_
              try go_frame
              refine wpAnyH_takeL (i := 13) (v := undef) rfl (by kernel_rfl) (by kernel_rfl) (by kernel_rfl) (fun _ _ _ h => h) (Or.inr ⟨by rfl, rfl⟩) hHeld ?_
              try go_frame
              refine wpAnyH_takeL (i := 14) (v := undef) rfl (by kernel_rfl) (by kernel_rfl) (by kernel_rfl) (fun _ _ _ h => h) (Or.inr ⟨by rfl, rfl⟩) hHeld ?_
              try go_frame
              refine wpAnyH_takeL (i := 15) (v := undef) rfl (by kernel_rfl) (by kernel_rfl) (by kernel_rfl) (fun _ _ _ h => h) (Or.inr ⟨by rfl, rfl⟩) hHeld ?_
              try go_frame
              refine wpAnyH_takeL (i := 16) (v := undef) rfl (by kernel_rfl) (by kernel_rfl) (by kernel_rfl) (fun _ _ _ h => h) (Or.inr ⟨by rfl, rfl⟩) hHeld ?_
              try go_frame
              refine wpAnyH_takeL (i := 17) (v := undef) rfl (by kernel_rfl) (by kernel_rfl) (by kernel_rfl) (fun _ _ _ h => h) (Or.inr ⟨by rfl, rfl⟩) hHeld ?_
              try go_frame
              refine wpAnyH_takeL (i := 18) (v := undef) rfl (by kernel_rfl) (by kernel_rfl) (by kernel_rfl) (fun _ _ _ h => h) (Or.inr ⟨by rfl, rfl⟩) hHeld ?_
              try go_frame
              refine wpAnyH_ready (rs := [19]) (by kernel_rfl) (by simp) ?_
              refine consL rfl (fun K hK => ?_) AllReadyH.nil
              go_simp
              refine hK.out _ _ (HMK.out _ k1) (fun hHeld => ?_)
              clear hK K
              try go_frame
              refine wpAnyH_takeL (i := 20) (v := undef) rfl (by kernel_rfl) (by kernel_rfl) (by kernel_rfl) (fun _ _ _ h => h) (Or.inr ⟨by rfl, rfl⟩) hHeld ?_
              try go_frame
              refine wpAnyH_takeL (i := 21) (v := ?_) rfl (by kernel_rfl) (by kernel_rfl) (by kernel_rfl) (fun _ _ _ h => h) (Or.inl ⟨by rfl, ?_⟩) hHeld ?_
              rotate_left
              · (intro w hSw; (try dsimp only at hSw); go_simp; try with_reducible rfl)
              try go_frame
              refine wpAnyH_takeL (i := 22) (v := ?_) rfl (by kernel_rfl) (by kernel_rfl) (by kernel_rfl) (fun _ _ _ h => h) (Or.inl ⟨by rfl, ?_⟩) hHeld ?_
              rotate_left
              · (intro w hSw; (try dsimp only at hSw); go_simp; try with_reducible rfl)
              try go_frame
              refine wpAnyH_takeL (i := 23) (v := ?_) rfl (by kernel_rfl) (by kernel_rfl) (by kernel_rfl) (fun _ _ _ h => h) (Or.inl ⟨by rfl, ?_⟩) hHeld ?_
              rotate_left
              · (intro w hSw; (try dsimp only at hSw); go_simp; try with_reducible rfl)
              try go_frame
              refine wpAnyH_takeL (i := 24) (v := ?_) rfl (by kernel_rfl) (by kernel_rfl) (by kernel_rfl) (fun _ _ _ h => h) (Or.inl ⟨by rfl, ?_⟩) hHeld ?_
              rotate_left
              · (intro w hSw; (try dsimp only at hSw); go_simp; try with_reducible rfl)
              try go_frame
              refine wpAnyH_takeL (i := 25) (v := ?_) rfl (by kernel_rfl) (by kernel_rfl) (by kernel_rfl) (fun _ _ _ h => h) (Or.inl ⟨by rfl, ?_⟩) hHeld ?_
              rotate_left
              · (intro w hSw; (try dsimp only at hSw); go_simp; try with_reducible rfl)
              try go_frame
              refine wpAnyH_takeL (i := 26) (v := ?_) rfl (by kernel_rfl) (by kernel_rfl) (by kernel_rfl) (fun _ _ _ h => h) (Or.inl ⟨by rfl, ?_⟩) hHeld ?_
              rotate_left
              · (intro w hSw; (try dsimp only at hSw); go_simp; try with_reducible rfl)
              try go_frame
              refine wpAnyH_takeL (i := 27) (v := ?_) rfl (by kernel_rfl) (by kernel_rfl) (by kernel_rfl) (fun _ _ _ h => h) (Or.inl ⟨by rfl, ?_⟩) hHeld ?_
              rotate_left
              · (intro w hSw; (try dsimp only at hSw); go_simp; try with_reducible rfl)
              try go_frame
              refine wpAnyH_takeL (i := 28) (v := ?_) rfl (by kernel_rfl) (by kernel_rfl) (by kernel_rfl) (fun _ _ _ h => h) (Or.inl ⟨by rfl, ?_⟩) hHeld ?_
              rotate_left
              · (intro w hSw; (try dsimp only at hSw); go_simp; try with_reducible rfl)
              try go_frame
              refine wpAnyH_takeL (i := 29) (v := ?_) rfl (by kernel_rfl) (by kernel_rfl) (by kernel_rfl) (fun _ _ _ h => h) (Or.inl ⟨by rfl, ?_⟩) hHeld ?_
              rotate_left
              · (intro w hSw; (try dsimp only at hSw); go_simp; try with_reducible rfl)
              try go_frame
              refine wpAnyH_takeL (i := 30) (v := ?_) rfl (by kernel_rfl) (by kernel_rfl) (by kernel_rfl) (fun _ _ _ h => h) (Or.inl ⟨by rfl, ?_⟩) hHeld ?_
              rotate_left
              · (intro w hSw; (try dsimp only at hSw); go_simp; try with_reducible rfl)
              try go_frame
              refine wpAnyH_takeL (i := 31) (v := ?_) rfl (by kernel_rfl) (by kernel_rfl) (by kernel_rfl) (fun _ _ _ h => h) (Or.inl ⟨by rfl, ?_⟩) hHeld ?_
              rotate_left
              · (intro w hSw; (try dsimp only at hSw); go_simp; try with_reducible rfl)
              try go_frame
              refine wpAnyH_takeL (i := 32) (v := ?_) rfl (by kernel_rfl) (by kernel_rfl) (by kernel_rfl) (fun _ _ _ h => h) (Or.inl ⟨by rfl, ?_⟩) hHeld ?_
              rotate_left
              · (intro w hSw; (try dsimp only at hSw); go_simp; try with_reducible rfl)
              try go_frame
              refine wpAnyH_takeL (i := 33) (v := ?_) rfl (by kernel_rfl) (by kernel_rfl) (by kernel_rfl) (fun _ _ _ h => h) (Or.inl ⟨by rfl, ?_⟩) hHeld ?_
              rotate_left
              · (intro w hSw; (try dsimp only at hSw); go_simp; try with_reducible rfl)
              try go_frame
              refine wpAnyH_takeL (i := 34) (v := ?_) rfl (by kernel_rfl) (by kernel_rfl) (by kernel_rfl) (fun _ _ _ h => h) (Or.inl ⟨by rfl, ?_⟩) hHeld ?_
              rotate_left
              · (intro w hSw; (try dsimp only at hSw); go_simp; try with_reducible rfl)
              try go_frame
              refine wpAnyH_takeL (i := 35) (v := ?_) rfl (by kernel_rfl) (by kernel_rfl) (by kernel_rfl) (fun _ _ _ h => h) (Or.inl ⟨by rfl, ?_⟩) hHeld ?_
              rotate_left
              · (intro w hSw; (try dsimp only at hSw); go_simp; try with_reducible rfl)
              try go_frame
              refine wpAnyH_takeL (i := 36) (v := ?_) rfl (by kernel_rfl) (by kernel_rfl) (by kernel_rfl) (fun _ _ _ h => h) (Or.inl ⟨by rfl, ?_⟩) hHeld ?_
              rotate_left
              · (intro w hSw; (try dsimp only at hSw); go_simp; try with_reducible rfl)
              try go_frame
              refine wpAnyH_takeL (i := 37) (v := ?_) rfl (by kernel_rfl) (by kernel_rfl) (by kernel_rfl) (fun _ _ _ h => h) (Or.inl ⟨by rfl, ?_⟩) hHeld ?_
              rotate_left
              · (intro w hSw; (try dsimp only at hSw); go_simp; try with_reducible rfl)
              try go_frame
              refine wpAnyH_takeL (i := 38) (v := ?_) rfl (by kernel_rfl) (by kernel_rfl) (by kernel_rfl) (fun _ _ _ h => h) (Or.inl ⟨by rfl, ?_⟩) hHeld ?_
              rotate_left
              · (intro w hSw; (try dsimp only at hSw); go_simp; try with_reducible rfl)
              try go_frame
              refine wpAnyH_done (by kernel_rfl) ?_ _
              clear HMK hHeld
              have TV : Hid (FqSt w w1 g n c gs m cs (some ⟨b0, o0, none⟩) ng cg L S F) := HT.out.below k1
              clear k0 k1
              go_wp2
              go_roundw
              case rel => exact ⟨0 + 1, by omega, by go_num, TV.out, fun j e hj he => by
                by_cases hji : j < 0
                · exact HLT.out j e hji he
                · have : j = 0 := by omega
                  subst this
                  rw [HY.out] at he
                  cases he
                  exact ⟨by simp only; omega, by simp only; omega⟩⟩
              case measure => simp [intOf] <;> omega
        · obtain ⟨p, hp⟩ : ∃ p, i = p + 1 := ⟨i - 1, by omega⟩
          have hiI : (0 : Int) < (i : Int) := by omega
          have hiN : 0 < i := by omega
          have wi : IntKind.i64.wrap ((i : Int) - 1) = (p : Int) := by
            have e : (i : Int) - 1 = (p : Int) := by omega
            rw [e, IntWalk.i64_left]; unfold wrap64; omega
          have hpI : (p : Int) < (ng : Int) := by omega
          obtain ⟨s, q, d, t, mm, hx, _, g0, g1, g2, g3, g4⟩ := HT.out.og.entsAt.ent (Below.refl _ wr) hb0 p (by omega)
          have HLB : Hid (lessB s q s' q' = true) := by
            have h := right_next HRF.out hx (by rw [← hp]; exact hy)
            exact h
          have HMK : Hid (∀ w', Below wr.heap.size wr w' → (w'.cell? ⟨b0, o0 + p * 5, none⟩ = some (.string s) ∧ w'.cell? ⟨b0, o0 + p * 5 + 1, none⟩ = some (.int .i64 q) ∧ w'.cell? ⟨b0, o0 + p * 5 + 2, none⟩ = some (.int .i64 d) ∧ w'.cell? ⟨b0, o0 + p * 5 + 3, none⟩ = some (.string t) ∧ w'.cell? ⟨b0, o0 + p * 5 + 4, none⟩ = some (.int .i64 mm) ∧ w'.cell? ⟨b0, o0 + i * 5, none⟩ = some (.string s') ∧ w'.cell? ⟨b0, o0 + i * 5 + 1, none⟩ = some (.int .i64 q') ∧ w'.cell? ⟨b0, o0 + i * 5 + 2, none⟩ = some (.int .i64 d') ∧ w'.cell? ⟨b0, o0 + i * 5 + 3, none⟩ = some (.string t') ∧ w'.cell? ⟨b0, o0 + i * 5 + 4, none⟩ = some (.int .i64 mm') ∧ b0 < w'.heap.size)) := fun w' kk => ⟨cell_later kk g0, cell_later kk g1, cell_later kk g2, cell_later kk g3, cell_later kk g4, cell_later kk e0, cell_later kk e1, cell_later kk e2, cell_later kk e3, cell_later kk e4, Nat.lt_of_lt_of_le hb0 kk.size⟩
          clear hx hy hew g0 g1 g2 g3 g4 e0 e1 e2 e3 e4 hp hi0
          by_cases hbg : 2000 < mm'
          · have hbgB : mm' > 2000 := hbg
            have HV : Hid (¬ Lit2 (s', q', d', t', mm')) := by show ¬ (_ ∧ _); simp only; omega
            obtain ⟨f0, R0, hL0, hf0⟩ := HBF.out _ (List.mem_of_getElem? HY.out) HV.out
            obtain ⟨fs, fq, fd, ft, fm⟩ := f0
            simp only at hf0
            subst hL0
            have hnp : 0 < n := by rw [← HLN.out]; simp
            have hnpI : (0 : Int) < (n : Int) := by omega
            go_wp2_with fail
            refine wp_region_held_drew (S := (fun w' => w'.cell? ⟨b0, o0 + p * 5, none⟩ = some (.string s) ∧ w'.cell? ⟨b0, o0 + p * 5 + 1, none⟩ = some (.int .i64 q) ∧ w'.cell? ⟨b0, o0 + p * 5 + 2, none⟩ = some (.int .i64 d) ∧ w'.cell? ⟨b0, o0 + p * 5 + 3, none⟩ = some (.string t) ∧ w'.cell? ⟨b0, o0 + p * 5 + 4, none⟩ = some (.int .i64 mm) ∧ w'.cell? ⟨b0, o0 + i * 5, none⟩ = some (.string s') ∧ w'.cell? ⟨b0, o0 + i * 5 + 1, none⟩ = some (.int .i64 q') ∧ w'.cell? ⟨b0, o0 + i * 5 + 2, none⟩ = some (.int .i64 d') ∧ w'.cell? ⟨b0, o0 + i * 5 + 3, none⟩ = some (.string t') ∧ w'.cell? ⟨b0, o0 + i * 5 + 4, none⟩ = some (.int .i64 mm') ∧ b0 < w'.heap.size)) (by kernel_rfl) (HMK.out _ k0) (fun hHeld => ?_)
            refine wpAnyH_takeL (i := 0) (v := ?_) rfl (by kernel_rfl) (by kernel_rfl) (by kernel_rfl) (fun _ _ _ h => h) (Or.inl ⟨by rfl, ?_⟩) hHeld ?_
            rotate_left
            · (intro w hSw; (try dsimp only at hSw); go_simp; try with_reducible rfl)
            try go_frame
            refine wpAnyH_takeL (i := 1) (v := ?_) rfl (by kernel_rfl) (by kernel_rfl) (by kernel_rfl) (fun _ _ _ h => h) (Or.inl ⟨by rfl, ?_⟩) hHeld ?_
            rotate_left
            · (intro w hSw; (try dsimp only at hSw); go_simp; try with_reducible rfl)
            try go_frame
            refine wpAnyH_takeL (i := 2) (v := ?_) rfl (by kernel_rfl) (by kernel_rfl) (by kernel_rfl) (fun _ _ _ h => h) (Or.inl ⟨by rfl, ?_⟩) hHeld ?_
            rotate_left
            · (intro w hSw; (try dsimp only at hSw); go_simp; try with_reducible rfl)
            try go_frame
            refine wpAnyH_takeL (i := 3) (v := ?_) rfl (by kernel_rfl) (by kernel_rfl) (by kernel_rfl) (fun _ _ _ h => h) (Or.inl ⟨by rfl, ?_⟩) hHeld ?_
            rotate_left
            · (intro w hSw; (try dsimp only at hSw); go_simp; try with_reducible rfl)
            try go_frame
            refine wpAnyH_ready (rs := [4]) (by kernel_rfl) (by simp) ?_
            refine consL rfl (fun K hK => ?_) AllReadyH.nil
            go_simp
            refine (implEnt s' t' q' d' mm' _ hks).mono ?_
            rintro e w1 ⟨rfl, b1'⟩
            rw [HEN.out]
            have k1 : Below wr.heap.size wr w1 := k0.trans (b1'.mono k0.size)
            go_wp2_with fail
            refine hK.out _ _ (HMK.out _ k1) (fun hHeld => ?_)
            clear hK K
            try go_frame
            refine wpAnyH_takeL (i := 5) (v := ?_) rfl (by kernel_rfl) (by kernel_rfl) (by kernel_rfl) (fun _ _ _ h => h) (Or.inl ⟨by rfl, ?_⟩) hHeld ?_
            rotate_left
            · (intro w hSw; (try dsimp only at hSw); go_simp; try with_reducible rfl)
            try go_frame
            refine wpAnyH_takeL (i := 6) (v := ?_) rfl (by kernel_rfl) (by kernel_rfl) (by kernel_rfl) (fun _ _ _ h => h) (Or.inl ⟨by rfl, ?_⟩) hHeld ?_
            rotate_left
            · (intro w hSw; (try dsimp only at hSw); go_simp; try with_reducible rfl)
            try go_frame
            refine wpAnyH_takeL (i := 7) (v := ?_) rfl (by kernel_rfl) (by kernel_rfl) (by kernel_rfl) (fun _ _ _ h => h) (Or.inl ⟨by rfl, ?_⟩) hHeld ?_
            rotate_left
            · (intro w hSw; (try dsimp only at hSw); go_simp; try with_reducible rfl)
            try go_frame
            refine wpAnyH_takeL (i := 8) (v := ?_) rfl (by kernel_rfl) (by kernel_rfl) (by kernel_rfl) (fun _ _ _ h => h) (Or.inl ⟨by rfl, ?_⟩) hHeld ?_
            rotate_left
            · (intro w hSw; (try dsimp only at hSw); go_simp; try with_reducible rfl)
            try go_frame
            refine wpAnyH_takeL (i := 9) (v := ?_) rfl (by kernel_rfl) (by kernel_rfl) (by kernel_rfl) (fun _ _ _ h => h) (Or.inl ⟨by rfl, ?_⟩) hHeld ?_
            rotate_left
            · (intro w hSw; (try dsimp only at hSw); go_simp; try with_reducible rfl)
            try go_frame
            refine wpAnyH_takeL (i := 10) (v := ?_) rfl (by kernel_rfl) (by kernel_rfl) (by kernel_rfl) (fun _ _ _ h => h) (Or.inl ⟨by rfl, ?_⟩) hHeld ?_
            rotate_left
            · (intro w hSw; (try dsimp only at hSw); go_simp; try with_reducible rfl)
            try go_frame
            refine wpAnyH_takeL (i := 11) (v := ?_) rfl (by kernel_rfl) (by kernel_rfl) (by kernel_rfl) (fun _ _ _ h => h) (Or.inl ⟨by rfl, ?_⟩) hHeld ?_
            rotate_left
            · (intro w hSw; (try dsimp only at hSw); go_simp; try with_reducible rfl)
            try go_frame
            refine wpAnyH_takeL (i := 12) (v := ?_) rfl (by kernel_rfl) (by kernel_rfl) (by kernel_rfl) (fun _ _ _ h => h) (Or.inl ⟨by rfl, ?_⟩) hHeld ?_
            rotate_left
            · (intro w hSw; (try dsimp only at hSw); go_simp; try with_reducible rfl)
            try go_frame
            refine wpAnyH_takeL (i := 13) (v := ?_) rfl (by kernel_rfl) (by kernel_rfl) (by kernel_rfl) (fun _ _ _ h => h) (Or.inl ⟨by rfl, ?_⟩) hHeld ?_
            rotate_left
            · (intro w hSw; (try dsimp only at hSw); go_simp; try with_reducible rfl)
            try go_frame
            refine wpAnyH_takeL (i := 14) (v := ?_) rfl (by kernel_rfl) (by kernel_rfl) (by kernel_rfl) (fun _ _ _ h => h) (Or.inl ⟨by rfl, ?_⟩) hHeld ?_
            rotate_left
            · (intro w hSw; (try dsimp only at hSw); go_simp; try with_reducible rfl)
            try go_frame
            refine wpAnyH_takeL (i := 15) (v := ?_) rfl (by kernel_rfl) (by kernel_rfl) (by kernel_rfl) (fun _ _ _ h => h) (Or.inl ⟨by rfl, ?_⟩) hHeld ?_
            rotate_left
            · (intro w hSw; (try dsimp only at hSw); go_simp; try with_reducible rfl)
            try go_frame
            refine wpAnyH_takeL (i := 16) (v := ?_) rfl (by kernel_rfl) (by kernel_rfl) (by kernel_rfl) (fun _ _ _ h => h) (Or.inl ⟨by rfl, ?_⟩) hHeld ?_
            rotate_left
            · (intro w hSw; (try dsimp only at hSw); go_simp; try with_reducible rfl)
            try go_frame
            refine wpAnyH_takeL (i := 17) (v := ?_) rfl (by kernel_rfl) (by kernel_rfl) (by kernel_rfl) (fun _ _ _ h => h) (Or.inl ⟨by rfl, ?_⟩) hHeld ?_
            rotate_left
            · (intro w hSw; (try dsimp only at hSw); go_simp; try with_reducible rfl)
            try go_frame
            refine wpAnyH_takeL (i := 18) (v := ?_) rfl (by kernel_rfl) (by kernel_rfl) (by kernel_rfl) (fun _ _ _ h => h) (Or.inl ⟨by rfl, ?_⟩) hHeld ?_
            rotate_left
            · (intro w hSw; (try dsimp only at hSw); go_simp; try with_reducible rfl)
            try go_frame
            refine wpAnyH_ready (rs := [19]) (by kernel_rfl) (by simp) ?_
            refine consL rfl (fun K hK => ?_) AllReadyH.nil
            go_simp
            refine (implLess s t s' t' q d mm q' d' mm' _).mono ?_
            rintro e w2 ⟨rfl, b2'⟩
            rw [HLB.out]
            have k2 : Below wr.heap.size wr w2 := k1.trans (b2'.mono k1.size)
            go_wp2_with fail
            refine hK.out _ _ (HMK.out _ k2) (fun hHeld => ?_)
            clear hK K
            try go_frame
            refine wpAnyH_takeL (i := 20) (v := ?_) rfl (by kernel_rfl) (by kernel_rfl) (by kernel_rfl) (fun _ _ _ h => h) (Or.inl ⟨by rfl, ?_⟩) hHeld ?_
            rotate_left
            · (intro w hSw; (try dsimp only at hSw); go_simp; try with_reducible rfl)
            try go_frame
            refine wpAnyH_takeL (i := 21) (v := ?_) rfl (by kernel_rfl) (by kernel_rfl) (by kernel_rfl) (fun _ _ _ h => h) (Or.inl ⟨by rfl, ?_⟩) hHeld ?_
            rotate_left
            · (intro w hSw; (try dsimp only at hSw); go_simp; try with_reducible rfl)
            try go_frame
            refine wpAnyH_takeL (i := 22) (v := ?_) rfl (by kernel_rfl) (by kernel_rfl) (by kernel_rfl) (fun _ _ _ h => h) (Or.inl ⟨by rfl, ?_⟩) hHeld ?_
            rotate_left
            · (intro w hSw; (try dsimp only at hSw); go_simp; try with_reducible rfl)
            try go_frame
            refine wpAnyH_takeL (i := 23) (v := ?_) rfl (by kernel_rfl) (by kernel_rfl) (by kernel_rfl) (fun _ _ _ h => h) (Or.inl ⟨by rfl, ?_⟩) hHeld ?_
            rotate_left
            · (intro w hSw; (try dsimp only at hSw); go_simp; try with_reducible rfl)
            try go_frame
            refine wpAnyH_takeL (i := 24) (v := ?_) rfl (by kernel_rfl) (by kernel_rfl) (by kernel_rfl) (fun _ _ _ h => h) (Or.inl ⟨by rfl, ?_⟩) hHeld ?_
            rotate_left
            · (intro w hSw; (try dsimp only at hSw); go_simp; try with_reducible rfl)
            try go_frame
            refine wpAnyH_takeL (i := 25) (v := ?_) rfl (by kernel_rfl) (by kernel_rfl) (by kernel_rfl) (fun _ _ _ h => h) (Or.inl ⟨by rfl, ?_⟩) hHeld ?_
            rotate_left
            · (intro w hSw; (try dsimp only at hSw); go_simp; try with_reducible rfl)
            try go_frame
            refine wpAnyH_takeL (i := 26) (v := ?_) rfl (by kernel_rfl) (by kernel_rfl) (by kernel_rfl) (fun _ _ _ h => h) (Or.inl ⟨by rfl, ?_⟩) hHeld ?_
            rotate_left
            · (intro w hSw; (try dsimp only at hSw); go_simp; try with_reducible rfl)
            try go_frame
            refine wpAnyH_takeL (i := 27) (v := ?_) rfl (by kernel_rfl) (by kernel_rfl) (by kernel_rfl) (fun _ _ _ h => h) (Or.inl ⟨by rfl, ?_⟩) hHeld ?_
            rotate_left
            · (intro w hSw; (try dsimp only at hSw); go_simp; try with_reducible rfl)
            try go_frame
            refine wpAnyH_takeL (i := 28) (v := ?_) rfl (by kernel_rfl) (by kernel_rfl) (by kernel_rfl) (fun _ _ _ h => h) (Or.inl ⟨by rfl, ?_⟩) hHeld ?_
            rotate_left
            · (intro w hSw; (try dsimp only at hSw); go_simp; try with_reducible rfl)
            try go_frame
            refine wpAnyH_takeL (i := 29) (v := ?_) rfl (by kernel_rfl) (by kernel_rfl) (by kernel_rfl) (fun _ _ _ h => h) (Or.inl ⟨by rfl, ?_⟩) hHeld ?_
            rotate_left
            · (intro w hSw; (try dsimp only at hSw); go_simp; try with_reducible rfl)
            try go_frame
            refine wpAnyH_takeL (i := 30) (v := ?_) rfl (by kernel_rfl) (by kernel_rfl) (by kernel_rfl) (fun _ _ _ h => h) (Or.inl ⟨by rfl, ?_⟩) hHeld ?_
            rotate_left
            · (intro w hSw; (try dsimp only at hSw); go_simp; try with_reducible rfl)
            try go_frame
            refine wpAnyH_takeL (i := 31) (v := ?_) rfl (by kernel_rfl) (by kernel_rfl) (by kernel_rfl) (fun _ _ _ h => h) (Or.inl ⟨by rfl, ?_⟩) hHeld ?_
            rotate_left
            · (intro w hSw; (try dsimp only at hSw); go_simp; try with_reducible rfl)
            try go_frame
            refine wpAnyH_takeL (i := 32) (v := undef) rfl (by kernel_rfl) (by kernel_rfl) (by kernel_rfl) (fun _ _ _ h => h) (Or.inr ⟨by rfl, rfl⟩) hHeld ?_
            try go_frame
            refine wpAnyH_takeL (i := 33) (v := undef) rfl (by kernel_rfl) (by kernel_rfl) (by kernel_rfl) (fun _ _ _ h => h) (Or.inr ⟨by rfl, rfl⟩) hHeld ?_
            try go_frame
            refine wpAnyH_takeL (i := 34) (v := undef) rfl (by kernel_rfl) (by kernel_rfl) (by kernel_rfl) (fun _ _ _ h => h) (Or.inr ⟨by rfl, rfl⟩) hHeld ?_
            try go_frame
            refine wpAnyH_takeL (i := 35) (v := undef) rfl (by kernel_rfl) (by kernel_rfl) (by kernel_rfl) (fun _ _ _ h => h) (Or.inr ⟨by rfl, rfl⟩) hHeld ?_
            try go_frame
            refine wpAnyH_takeL (i := 36) (v := undef) rfl (by kernel_rfl) (by kernel_rfl) (by kernel_rfl) (fun _ _ _ h => h) (Or.inr ⟨by rfl, rfl⟩) hHeld ?_
            try go_frame
            refine wpAnyH_takeL (i := 37) (v := undef) rfl (by kernel_rfl) (by kernel_rfl) (by kernel_rfl) (fun _ _ _ h => h) (Or.inr ⟨by rfl, rfl⟩) hHeld ?_
            try go_frame
            refine wpAnyH_takeL (i := 38) (v := ?_) rfl (by kernel_rfl) (by kernel_rfl) (by kernel_rfl) (fun _ _ _ h => h) (Or.inl ⟨by rfl, ?_⟩) hHeld ?_
            rotate_left
            · (intro w hSw; (try dsimp only at hSw); go_simp; try with_reducible rfl)
            try go_frame
            refine wpAnyH_done (by kernel_rfl) ?_ _
            clear HMK hHeld
            have TV : Hid (FqSt w w2 g n c gs m cs (some ⟨b0, o0, none⟩) ng cg ((fs, fq, fd, ft, fm) :: R0) S F) := HT.out.below k2
            obtain ⟨_, _, _, _, x4⟩ := TV.out.ol.entsAt.cells _ rfl 0 (by simp)
            simp only [Nat.zero_mul, Nat.add_zero, Nat.zero_add, List.getElem_cons_zero] at x4
            have zg := TV.out.ol.lt.2
            clear k0 k1 k2
            rcases hf0 with rfl | rfl
            · go_wp2
              go_ret
              exact ⟨rfl, TV.out.all⟩
            · go_wp2
              go_ret
              exact ⟨rfl, TV.out.all⟩
          · have hbgN : mm' ≤ 2000 := by omega
            have hbgD : decide (2000 < mm') = false := decide_eq_false hbg
            by_cases hsm : mm' < -2000
            · have HV : Hid (¬ Lit2 (s', q', d', t', mm')) := by show ¬ (_ ∧ _); simp only; omega
              obtain ⟨f0, R0, hL0, hf0⟩ := HBF.out _ (List.mem_of_getElem? HY.out) HV.out
              obtain ⟨fs, fq, fd, ft, fm⟩ := f0
              simp only at hf0
              subst hL0
              have hnp : 0 < n := by rw [← HLN.out]; simp
              have hnpI : (0 : Int) < (n : Int) := by omega
              go_wp2_with fail
              refine wp_region_held_drew (S := (fun w' => w'.cell? ⟨b0, o0 + p * 5, none⟩ = some (.string s) ∧ w'.cell? ⟨b0, o0 + p * 5 + 1, none⟩ = some (.int .i64 q) ∧ w'.cell? ⟨b0, o0 + p * 5 + 2, none⟩ = some (.int .i64 d) ∧ w'.cell? ⟨b0, o0 + p * 5 + 3, none⟩ = some (.string t) ∧ w'.cell? ⟨b0, o0 + p * 5 + 4, none⟩ = some (.int .i64 mm) ∧ w'.cell? ⟨b0, o0 + i * 5, none⟩ = some (.string s') ∧ w'.cell? ⟨b0, o0 + i * 5 + 1, none⟩ = some (.int .i64 q') ∧ w'.cell? ⟨b0, o0 + i * 5 + 2, none⟩ = some (.int .i64 d') ∧ w'.cell? ⟨b0, o0 + i * 5 + 3, none⟩ = some (.string t') ∧ w'.cell? ⟨b0, o0 + i * 5 + 4, none⟩ = some (.int .i64 mm') ∧ b0 < w'.heap.size)) (by kernel_rfl) (HMK.out _ k0) (fun hHeld => ?_)
              refine wpAnyH_takeL (i := 0) (v := ?_) rfl (by kernel_rfl) (by kernel_rfl) (by kernel_rfl) (fun _ _ _ h => h) (Or.inl ⟨by rfl, ?_⟩) hHeld ?_
              rotate_left
              · (intro w hSw; (try dsimp only at hSw); go_simp; try with_reducible rfl)
              try go_frame
              refine wpAnyH_takeL (i := 1) (v := ?_) rfl (by kernel_rfl) (by kernel_rfl) (by kernel_rfl) (fun _ _ _ h => h) (Or.inl ⟨by rfl, ?_⟩) hHeld ?_
              rotate_left
              · (intro w hSw; (try dsimp only at hSw); go_simp; try with_reducible rfl)
              try go_frame
              refine wpAnyH_takeL (i := 2) (v := ?_) rfl (by kernel_rfl) (by kernel_rfl) (by kernel_rfl) (fun _ _ _ h => h) (Or.inl ⟨by rfl, ?_⟩) hHeld ?_
              rotate_left
              · (intro w hSw; (try dsimp only at hSw); go_simp; try with_reducible rfl)
              try go_frame
              refine wpAnyH_takeL (i := 3) (v := ?_) rfl (by kernel_rfl) (by kernel_rfl) (by kernel_rfl) (fun _ _ _ h => h) (Or.inl ⟨by rfl, ?_⟩) hHeld ?_
              rotate_left
              · (intro w hSw; (try dsimp only at hSw); go_simp; try with_reducible rfl)
              try go_frame
              refine wpAnyH_ready (rs := [4]) (by kernel_rfl) (by simp) ?_
              refine consL rfl (fun K hK => ?_) AllReadyH.nil
              go_simp
              refine (implEnt s' t' q' d' mm' _ hks).mono ?_
              rintro e w1 ⟨rfl, b1'⟩
              rw [HEN.out]
              have k1 : Below wr.heap.size wr w1 := k0.trans (b1'.mono k0.size)
              go_wp2_with fail
              refine hK.out _ _ (HMK.out _ k1) (fun hHeld => ?_)
              clear hK K
              try go_frame
              refine wpAnyH_takeL (i := 5) (v := ?_) rfl (by kernel_rfl) (by kernel_rfl) (by kernel_rfl) (fun _ _ _ h => h) (Or.inl ⟨by rfl, ?_⟩) hHeld ?_
              rotate_left
              · (intro w hSw; (try dsimp only at hSw); go_simp; try with_reducible rfl)
              try go_frame
              refine wpAnyH_takeL (i := 6) (v := ?_) rfl (by kernel_rfl) (by kernel_rfl) (by kernel_rfl) (fun _ _ _ h => h) (Or.inl ⟨by rfl, ?_⟩) hHeld ?_
              rotate_left
              · (intro w hSw; (try dsimp only at hSw); go_simp; try with_reducible rfl)
              try go_frame
              refine wpAnyH_takeL (i := 7) (v := ?_) rfl (by kernel_rfl) (by kernel_rfl) (by kernel_rfl) (fun _ _ _ h => h) (Or.inl ⟨by rfl, ?_⟩) hHeld ?_
              rotate_left
              · (intro w hSw; (try dsimp only at hSw); go_simp; try with_reducible rfl)
              try go_frame
              refine wpAnyH_takeL (i := 8) (v := ?_) rfl (by kernel_rfl) (by kernel_rfl) (by kernel_rfl) (fun _ _ _ h => h) (Or.inl ⟨by rfl, ?_⟩) hHeld ?_
              rotate_left
              · (intro w hSw; (try dsimp only at hSw); go_simp; try with_reducible rfl)
              try go_frame
              refine wpAnyH_takeL (i := 9) (v := ?_) rfl (by kernel_rfl) (by kernel_rfl) (by kernel_rfl) (fun _ _ _ h => h) (Or.inl ⟨by rfl, ?_⟩) hHeld ?_
              rotate_left
              · (intro w hSw; (try dsimp only at hSw); go_simp; try with_reducible rfl)
              try go_frame
              refine wpAnyH_takeL (i := 10) (v := ?_) rfl (by kernel_rfl) (by kernel_rfl) (by kernel_rfl) (fun _ _ _ h => h) (Or.inl ⟨by rfl, ?_⟩) hHeld ?_
              rotate_left
              · (intro w hSw; (try dsimp only at hSw); go_simp; try with_reducible rfl)
              try go_frame
              refine wpAnyH_takeL (i := 11) (v := ?_) rfl (by kernel_rfl) (by kernel_rfl) (by kernel_rfl) (fun _ _ _ h => h) (Or.inl ⟨by rfl, ?_⟩) hHeld ?_
              rotate_left
              · (intro w hSw; (try dsimp only at hSw); go_simp; try with_reducible rfl)
              try go_frame
              refine wpAnyH_takeL (i := 12) (v := ?_) rfl (by kernel_rfl) (by kernel_rfl) (by kernel_rfl) (fun _ _ _ h => h) (Or.inl ⟨by rfl, ?_⟩) hHeld ?_
              rotate_left
              · (intro w hSw; (try dsimp only at hSw); go_simp; try with_reducible rfl)
              try go_frame
              refine wpAnyH_takeL (i := 13) (v := ?_) rfl (by kernel_rfl) (by kernel_rfl) (by kernel_rfl) (fun _ _ _ h => h) (Or.inl ⟨by rfl, ?_⟩) hHeld ?_
              rotate_left
              · (intro w hSw; (try dsimp only at hSw); go_simp; try with_reducible rfl)
              try go_frame
              refine wpAnyH_takeL (i := 14) (v := ?_) rfl (by kernel_rfl) (by kernel_rfl) (by kernel_rfl) (fun _ _ _ h => h) (Or.inl ⟨by rfl, ?_⟩) hHeld ?_
              rotate_left
              · (intro w hSw; (try dsimp only at hSw); go_simp; try with_reducible rfl)
              try go_frame
              refine wpAnyH_takeL (i := 15) (v := ?_) rfl (by kernel_rfl) (by kernel_rfl) (by kernel_rfl) (fun _ _ _ h => h) (Or.inl ⟨by rfl, ?_⟩) hHeld ?_
              rotate_left
              · (intro w hSw; (try dsimp only at hSw); go_simp; try with_reducible rfl)
              try go_frame
              refine wpAnyH_takeL (i := 16) (v := ?_) rfl (by kernel_rfl) (by kernel_rfl) (by kernel_rfl) (fun _ _ _ h => h) (Or.inl ⟨by rfl, ?_⟩) hHeld ?_
              rotate_left
              · (intro w hSw; (try dsimp only at hSw); go_simp; try with_reducible rfl)
              try go_frame
              refine wpAnyH_takeL (i := 17) (v := ?_) rfl (by kernel_rfl) (by kernel_rfl) (by kernel_rfl) (fun _ _ _ h => h) (Or.inl ⟨by rfl, ?_⟩) hHeld ?_
              rotate_left
              · (intro w hSw; (try dsimp only at hSw); go_simp; try with_reducible rfl)
              try go_frame
              refine wpAnyH_takeL (i := 18) (v := ?_) rfl (by kernel_rfl) (by kernel_rfl) (by kernel_rfl) (fun _ _ _ h => h) (Or.inl ⟨by rfl, ?_⟩) hHeld ?_
              rotate_left
              · (intro w hSw; (try dsimp only at hSw); go_simp; try with_reducible rfl)
              try go_frame
              refine wpAnyH_ready (rs := [19]) (by kernel_rfl) (by simp) ?_
              refine consL rfl (fun K hK => ?_) AllReadyH.nil
              go_simp
              refine (implLess s t s' t' q d mm q' d' mm' _).mono ?_
              rintro e w2 ⟨rfl, b2'⟩
              rw [HLB.out]
              have k2 : Below wr.heap.size wr w2 := k1.trans (b2'.mono k1.size)
              go_wp2_with fail
              refine hK.out _ _ (HMK.out _ k2) (fun hHeld => ?_)
              clear hK K
              try go_frame
              refine wpAnyH_takeL (i := 20) (v := ?_) rfl (by kernel_rfl) (by kernel_rfl) (by kernel_rfl) (fun _ _ _ h => h) (Or.inl ⟨by rfl, ?_⟩) hHeld ?_
              rotate_left
              · (intro w hSw; (try dsimp only at hSw); go_simp; try with_reducible rfl)
              try go_frame
              refine wpAnyH_takeL (i := 21) (v := ?_) rfl (by kernel_rfl) (by kernel_rfl) (by kernel_rfl) (fun _ _ _ h => h) (Or.inl ⟨by rfl, ?_⟩) hHeld ?_
              rotate_left
              · (intro w hSw; (try dsimp only at hSw); go_simp; try with_reducible rfl)
              try go_frame
              refine wpAnyH_takeL (i := 22) (v := ?_) rfl (by kernel_rfl) (by kernel_rfl) (by kernel_rfl) (fun _ _ _ h => h) (Or.inl ⟨by rfl, ?_⟩) hHeld ?_
              rotate_left
              · (intro w hSw; (try dsimp only at hSw); go_simp; try with_reducible rfl)
              try go_frame
              refine wpAnyH_takeL (i := 23) (v := ?_) rfl (by kernel_rfl) (by kernel_rfl) (by kernel_rfl) (fun _ _ _ h => h) (Or.inl ⟨by rfl, ?_⟩) hHeld ?_
              rotate_left
              · (intro w hSw; (try dsimp only at hSw); go_simp; try with_reducible rfl)
              try go_frame
              refine wpAnyH_takeL (i := 24) (v := ?_) rfl (by kernel_rfl) (by kernel_rfl) (by kernel_rfl) (fun _ _ _ h => h) (Or.inl ⟨by rfl, ?_⟩) hHeld ?_
              rotate_left
              · (intro w hSw; (try dsimp only at hSw); go_simp; try with_reducible rfl)
              try go_frame
              refine wpAnyH_takeL (i := 25) (v := ?_) rfl (by kernel_rfl) (by kernel_rfl) (by kernel_rfl) (fun _ _ _ h => h) (Or.inl ⟨by rfl, ?_⟩) hHeld ?_
              rotate_left
              · (intro w hSw; (try dsimp only at hSw); go_simp; try with_reducible rfl)
              try go_frame
              refine wpAnyH_takeL (i := 26) (v := ?_) rfl (by kernel_rfl) (by kernel_rfl) (by kernel_rfl) (fun _ _ _ h => h) (Or.inl ⟨by rfl, ?_⟩) hHeld ?_
              rotate_left
              · (intro w hSw; (try dsimp only at hSw); go_simp; try with_reducible rfl)
              try go_frame
              refine wpAnyH_takeL (i := 27) (v := ?_) rfl (by kernel_rfl) (by kernel_rfl) (by kernel_rfl) (fun _ _ _ h => h) (Or.inl ⟨by rfl, ?_⟩) hHeld ?_
              rotate_left
              · (intro w hSw; (try dsimp only at hSw); go_simp; try with_reducible rfl)
              try go_frame
              refine wpAnyH_takeL (i := 28) (v := ?_) rfl (by kernel_rfl) (by kernel_rfl) (by kernel_rfl) (fun _ _ _ h => h) (Or.inl ⟨by rfl, ?_⟩) hHeld ?_
              rotate_left
              · (intro w hSw; (try dsimp only at hSw); go_simp; try with_reducible rfl)
              try go_frame
              refine wpAnyH_takeL (i := 29) (v := ?_) rfl (by kernel_rfl) (by kernel_rfl) (by kernel_rfl) (fun _ _ _ h => h) (Or.inl ⟨by rfl, ?_⟩) hHeld ?_
              rotate_left
              · (intro w hSw; (try dsimp only at hSw); go_simp; try with_reducible rfl)
              try go_frame
              refine wpAnyH_takeL (i := 30) (v := ?_) rfl (by kernel_rfl) (by kernel_rfl) (by kernel_rfl) (fun _ _ _ h => h) (Or.inl ⟨by rfl, ?_⟩) hHeld ?_
              rotate_left
              · (intro w hSw; (try dsimp only at hSw); go_simp; try with_reducible rfl)
              try go_frame
              refine wpAnyH_takeL (i := 31) (v := ?_) rfl (by kernel_rfl) (by kernel_rfl) (by kernel_rfl) (fun _ _ _ h => h) (Or.inl ⟨by rfl, ?_⟩) hHeld ?_
              rotate_left
              · (intro w hSw; (try dsimp only at hSw); go_simp; try with_reducible rfl)
              try go_frame
              refine wpAnyH_takeL (i := 32) (v := ?_) rfl (by kernel_rfl) (by kernel_rfl) (by kernel_rfl) (fun _ _ _ h => h) (Or.inl ⟨by rfl, ?_⟩) hHeld ?_
              rotate_left
              · (intro w hSw; (try dsimp only at hSw); go_simp; try with_reducible rfl)
              try go_frame
              refine wpAnyH_takeL (i := 33) (v := ?_) rfl (by kernel_rfl) (by kernel_rfl) (by kernel_rfl) (fun _ _ _ h => h) (Or.inl ⟨by rfl, ?_⟩) hHeld ?_
              rotate_left
              · (intro w hSw; (try dsimp only at hSw); go_simp; try with_reducible rfl)
              try go_frame
              refine wpAnyH_takeL (i := 34) (v := ?_) rfl (by kernel_rfl) (by kernel_rfl) (by kernel_rfl) (fun _ _ _ h => h) (Or.inl ⟨by rfl, ?_⟩) hHeld ?_
              rotate_left
              · (intro w hSw; (try dsimp only at hSw); go_simp; try with_reducible rfl)
              try go_frame
              refine wpAnyH_takeL (i := 35) (v := ?_) rfl (by kernel_rfl) (by kernel_rfl) (by kernel_rfl) (fun _ _ _ h => h) (Or.inl ⟨by rfl, ?_⟩) hHeld ?_
              rotate_left
              · (intro w hSw; (try dsimp only at hSw); go_simp; try with_reducible rfl)
              try go_frame
              refine wpAnyH_takeL (i := 36) (v := ?_) rfl (by kernel_rfl) (by kernel_rfl) (by kernel_rfl) (fun _ _ _ h => h) (Or.inl ⟨by rfl, ?_⟩) hHeld ?_
              rotate_left
              · (intro w hSw; (try dsimp only at hSw); go_simp; try with_reducible rfl)
              try go_frame
              refine wpAnyH_takeL (i := 37) (v := ?_) rfl (by kernel_rfl) (by kernel_rfl) (by kernel_rfl) (fun _ _ _ h => h) (Or.inl ⟨by rfl, ?_⟩) hHeld ?_
              rotate_left
              · (intro w hSw; (try dsimp only at hSw); go_simp; try with_reducible rfl)
              try go_frame
              refine wpAnyH_takeL (i := 38) (v := ?_) rfl (by kernel_rfl) (by kernel_rfl) (by kernel_rfl) (fun _ _ _ h => h) (Or.inl ⟨by rfl, ?_⟩) hHeld ?_
              rotate_left
              · (intro w hSw; (try dsimp only at hSw); go_simp; try with_reducible rfl)
              try go_frame
              refine wpAnyH_done (by kernel_rfl) ?_ _
              clear HMK hHeld
              have TV : Hid (FqSt w w2 g n c gs m cs (some ⟨b0, o0, none⟩) ng cg ((fs, fq, fd, ft, fm) :: R0) S F) := HT.out.below k2
              obtain ⟨_, _, _, _, x4⟩ := TV.out.ol.entsAt.cells _ rfl 0 (by simp)
              simp only [Nat.zero_mul, Nat.add_zero, Nat.zero_add, List.getElem_cons_zero] at x4
              have zg := TV.out.ol.lt.2
              clear k0 k1 k2
              rcases hf0 with rfl | rfl
              · go_wp2
                go_ret
                exact ⟨rfl, TV.out.all⟩
              · go_wp2
                go_ret
                exact ⟨rfl, TV.out.all⟩
            · have hsmD : decide (mm' < -2000) = false := decide_eq_false hsm
              go_wp2_with fail
              refine wp_region_held_drew (S := (fun w' => w'.cell? ⟨b0, o0 + p * 5, none⟩ = some (.string s) ∧ w'.cell? ⟨b0, o0 + p * 5 + 1, none⟩ = some (.int .i64 q) ∧ w'.cell? ⟨b0, o0 + p * 5 + 2, none⟩ = some (.int .i64 d) ∧ w'.cell? ⟨b0, o0 + p * 5 + 3, none⟩ = some (.string t) ∧ w'.cell? ⟨b0, o0 + p * 5 + 4, none⟩ = some (.int .i64 mm) ∧ w'.cell? ⟨b0, o0 + i * 5, none⟩ = some (.string s') ∧ w'.cell? ⟨b0, o0 + i * 5 + 1, none⟩ = some (.int .i64 q') ∧ w'.cell? ⟨b0, o0 + i * 5 + 2, none⟩ = some (.int .i64 d') ∧ w'.cell? ⟨b0, o0 + i * 5 + 3, none⟩ = some (.string t') ∧ w'.cell? ⟨b0, o0 + i * 5 + 4, none⟩ = some (.int .i64 mm') ∧ b0 < w'.heap.size)) (by kernel_rfl) (HMK.out _ k0) (fun hHeld => ?_)
              refine wpAnyH_takeL (i := 0) (v := ?_) rfl (by kernel_rfl) (by kernel_rfl) (by kernel_rfl) (fun _ _ _ h => h) (Or.inl ⟨by rfl, ?_⟩) hHeld ?_
              rotate_left
              · (intro w hSw; (try dsimp only at hSw); go_simp; try with_reducible rfl)
              try go_frame
              refine wpAnyH_takeL (i := 1) (v := ?_) rfl (by kernel_rfl) (by kernel_rfl) (by kernel_rfl) (fun _ _ _ h => h) (Or.inl ⟨by rfl, ?_⟩) hHeld ?_
              rotate_left
              · (intro w hSw; (try dsimp only at hSw); go_simp; try with_reducible rfl)
              try go_frame
              refine wpAnyH_takeL (i := 2) (v := ?_) rfl (by kernel_rfl) (by kernel_rfl) (by kernel_rfl) (fun _ _ _ h => h) (Or.inl ⟨by rfl, ?_⟩) hHeld ?_
              rotate_left
              · (intro w hSw; (try dsimp only at hSw); go_simp; try with_reducible rfl)
              try go_frame
              refine wpAnyH_takeL (i := 3) (v := ?_) rfl (by kernel_rfl) (by kernel_rfl) (by kernel_rfl) (fun _ _ _ h => h) (Or.inl ⟨by rfl, ?_⟩) hHeld ?_
              rotate_left
              · (intro w hSw; (try dsimp only at hSw); go_simp; try with_reducible rfl)
              try go_frame
              refine wpAnyH_ready (rs := [4]) (by kernel_rfl) (by simp) ?_
              refine consL rfl (fun K hK => ?_) AllReadyH.nil
              go_simp
              refine (implEnt s' t' q' d' mm' _ hks).mono ?_
              rintro e w1 ⟨rfl, b1'⟩
              rw [HEN.out]
              have k1 : Below wr.heap.size wr w1 := k0.trans (b1'.mono k0.size)
              go_wp2_with fail
              refine hK.out _ _ (HMK.out _ k1) (fun hHeld => ?_)
              clear hK K
              try go_frame
              refine wpAnyH_takeL (i := 5) (v := ?_) rfl (by kernel_rfl) (by kernel_rfl) (by kernel_rfl) (fun _ _ _ h => h) (Or.inl ⟨by rfl, ?_⟩) hHeld ?_
              rotate_left
              · (intro w hSw; (try dsimp only at hSw); go_simp; try with_reducible rfl)
              try go_frame
              refine wpAnyH_takeL (i := 6) (v := ?_) rfl (by kernel_rfl) (by kernel_rfl) (by kernel_rfl) (fun _ _ _ h => h) (Or.inl ⟨by rfl, ?_⟩) hHeld ?_
              rotate_left
              · (intro w hSw; (try dsimp only at hSw); go_simp; try with_reducible rfl)
              try go_frame
              refine wpAnyH_takeL (i := 7) (v := ?_) rfl (by kernel_rfl) (by kernel_rfl) (by kernel_rfl) (fun _ _ _ h => h) (Or.inl ⟨by rfl, ?_⟩) hHeld ?_
              rotate_left
              · (intro w hSw; (try dsimp only at hSw); go_simp; try with_reducible rfl)
              try go_frame
              refine wpAnyH_takeL (i := 8) (v := ?_) rfl (by kernel_rfl) (by kernel_rfl) (by kernel_rfl) (fun _ _ _ h => h) (Or.inl ⟨by rfl, ?_⟩) hHeld ?_
              rotate_left
              · (intro w hSw; (try dsimp only at hSw); go_simp; try with_reducible rfl)
              try go_frame
              refine wpAnyH_takeL (i := 9) (v := ?_) rfl (by kernel_rfl) (by kernel_rfl) (by kernel_rfl) (fun _ _ _ h => h) (Or.inl ⟨by rfl, ?_⟩) hHeld ?_
              rotate_left
              · (intro w hSw; (try dsimp only at hSw); go_simp; try with_reducible rfl)
              try go_frame
              refine wpAnyH_takeL (i := 10) (v := ?_) rfl (by kernel_rfl) (by kernel_rfl) (by kernel_rfl) (fun _ _ _ h => h) (Or.inl ⟨by rfl, ?_⟩) hHeld ?_
              rotate_left
              · (intro w hSw; (try dsimp only at hSw); go_simp; try with_reducible rfl)
              try go_frame
              refine wpAnyH_takeL (i := 11) (v := ?_) rfl (by kernel_rfl) (by kernel_rfl) (by kernel_rfl) (fun _ _ _ h => h) (Or.inl ⟨by rfl, ?_⟩) hHeld ?_
              rotate_left
              · (intro w hSw; (try dsimp only at hSw); go_simp; try with_reducible rfl)
              try go_frame
              refine wpAnyH_takeL (i := 12) (v := ?_) rfl (by kernel_rfl) (by kernel_rfl) (by kernel_rfl) (fun _ _ _ h => h) (Or.inl ⟨by rfl, ?_⟩) hHeld ?_
              rotate_left
              · (intro w hSw; (try dsimp only at hSw); go_simp; try with_reducible rfl)
              try go_frame
              refine wpAnyH_takeL (i := 13) (v := ?_) rfl (by kernel_rfl) (by kernel_rfl) (by kernel_rfl) (fun _ _ _ h => h) (Or.inl ⟨by rfl, ?_⟩) hHeld ?_
              rotate_left
              · (intro w hSw; (try dsimp only at hSw); go_simp; try with_reducible rfl)
              try go_frame
              refine wpAnyH_takeL (i := 14) (v := ?_) rfl (by kernel_rfl) (by kernel_rfl) (by kernel_rfl) (fun _ _ _ h => h) (Or.inl ⟨by rfl, ?_⟩) hHeld ?_
              rotate_left
              · (intro w hSw; (try dsimp only at hSw); go_simp; try with_reducible rfl)
              try go_frame
              refine wpAnyH_takeL (i := 15) (v := ?_) rfl (by kernel_rfl) (by kernel_rfl) (by kernel_rfl) (fun _ _ _ h => h) (Or.inl ⟨by rfl, ?_⟩) hHeld ?_
              rotate_left
              · (intro w hSw; (try dsimp only at hSw); go_simp; try with_reducible rfl)
              try go_frame
              refine wpAnyH_takeL (i := 16) (v := ?_) rfl (by kernel_rfl) (by kernel_rfl) (by kernel_rfl) (fun _ _ _ h => h) (Or.inl ⟨by rfl, ?_⟩) hHeld ?_
              rotate_left
              · (intro w hSw; (try dsimp only at hSw); go_simp; try with_reducible rfl)
              try go_frame
              refine wpAnyH_takeL (i := 17) (v := ?_) rfl (by kernel_rfl) (by kernel_rfl) (by kernel_rfl) (fun _ _ _ h => h) (Or.inl ⟨by rfl, ?_⟩) hHeld ?_
              rotate_left
              · (intro w hSw; (try dsimp only at hSw); go_simp; try with_reducible rfl)
              try go_frame
              refine wpAnyH_takeL (i := 18) (v := ?_) rfl (by kernel_rfl) (by kernel_rfl) (by kernel_rfl) (fun _ _ _ h => h) (Or.inl ⟨by rfl, ?_⟩) hHeld ?_
              rotate_left
              · (intro w hSw; (try dsimp only at hSw); go_simp; try with_reducible rfl)
              try go_frame
              refine wpAnyH_ready (rs := [19]) (by kernel_rfl) (by simp) ?_
              refine consL rfl (fun K hK => ?_) AllReadyH.nil
              go_simp
              refine (implLess s t s' t' q d mm q' d' mm' _).mono ?_
              rintro e w2 ⟨rfl, b2'⟩
              rw [HLB.out]
              have k2 : Below wr.heap.size wr w2 := k1.trans (b2'.mono k1.size)
              go_wp2_with fail
              refine hK.out _ _ (HMK.out _ k2) (fun hHeld => ?_)
              clear hK K
              try go_frame
              refine wpAnyH_takeL (i := 20) (v := ?_) rfl (by kernel_rfl) (by kernel_rfl) (by kernel_rfl) (fun _ _ _ h => h) (Or.inl ⟨by rfl, ?_⟩) hHeld ?_
              rotate_left
              · (intro w hSw; (try dsimp only at hSw); go_simp; try with_reducible rfl)
              try go_frame
              refine wpAnyH_takeL (i := 21) (v := ?_) rfl (by kernel_rfl) (by kernel_rfl) (by kernel_rfl) (fun _ _ _ h => h) (Or.inl ⟨by rfl, ?_⟩) hHeld ?_
              rotate_left
              · (intro w hSw; (try dsimp only at hSw); go_simp; try with_reducible rfl)
              try go_frame
              refine wpAnyH_takeL (i := 22) (v := ?_) rfl (by kernel_rfl) (by kernel_rfl) (by kernel_rfl) (fun _ _ _ h => h) (Or.inl ⟨by rfl, ?_⟩) hHeld ?_
              rotate_left
              · (intro w hSw; (try dsimp only at hSw); go_simp; try with_reducible rfl)
              try go_frame
              refine wpAnyH_takeL (i := 23) (v := ?_) rfl (by kernel_rfl) (by kernel_rfl) (by kernel_rfl) (fun _ _ _ h => h) (Or.inl ⟨by rfl, ?_⟩) hHeld ?_
              rotate_left
              · (intro w hSw; (try dsimp only at hSw); go_simp; try with_reducible rfl)
              try go_frame
              refine wpAnyH_takeL (i := 24) (v := ?_) rfl (by kernel_rfl) (by kernel_rfl) (by kernel_rfl) (fun _ _ _ h => h) (Or.inl ⟨by rfl, ?_⟩) hHeld ?_
              rotate_left
              · (intro w hSw; (try dsimp only at hSw); go_simp; try with_reducible rfl)
              try go_frame
              refine wpAnyH_takeL (i := 25) (v := ?_) rfl (by kernel_rfl) (by kernel_rfl) (by kernel_rfl) (fun _ _ _ h => h) (Or.inl ⟨by rfl, ?_⟩) hHeld ?_
              rotate_left
              · (intro w hSw; (try dsimp only at hSw); go_simp; try with_reducible rfl)
              try go_frame
              refine wpAnyH_takeL (i := 26) (v := ?_) rfl (by kernel_rfl) (by kernel_rfl) (by kernel_rfl) (fun _ _ _ h => h) (Or.inl ⟨by rfl, ?_⟩) hHeld ?_
              rotate_left
              · (intro w hSw; (try dsimp only at hSw); go_simp; try with_reducible rfl)
              try go_frame
              refine wpAnyH_takeL (i := 27) (v := ?_) rfl (by kernel_rfl) (by kernel_rfl) (by kernel_rfl) (fun _ _ _ h => h) (Or.inl ⟨by rfl, ?_⟩) hHeld ?_
              rotate_left
              · (intro w hSw; (try dsimp only at hSw); go_simp; try with_reducible rfl)
              try go_frame
              refine wpAnyH_takeL (i := 28) (v := ?_) rfl (by kernel_rfl) (by kernel_rfl) (by kernel_rfl) (fun _ _ _ h => h) (Or.inl ⟨by rfl, ?_⟩) hHeld ?_
              rotate_left
              · (intro w hSw; (try dsimp only at hSw); go_simp; try with_reducible rfl)
              try go_frame
              refine wpAnyH_takeL (i := 29) (v := ?_) rfl (by kernel_rfl) (by kernel_rfl) (by kernel_rfl) (fun _ _ _ h => h) (Or.inl ⟨by rfl, ?_⟩) hHeld ?_
              rotate_left
              · (intro w hSw; (try dsimp only at hSw); go_simp; try with_reducible rfl)
              try go_frame
              refine wpAnyH_takeL (i := 30) (v := ?_) rfl (by kernel_rfl) (by kernel_rfl) (by kernel_rfl) (fun _ _ _ h => h) (Or.inl ⟨by rfl, ?_⟩) hHeld ?_
              rotate_left
              · (intro w hSw; (try dsimp only at hSw); go_simp; try with_reducible rfl)
              try go_frame
              refine wpAnyH_takeL (i := 31) (v := ?_) rfl (by kernel_rfl) (by kernel_rfl) (by kernel_rfl) (fun _ _ _ h => h) (Or.inl ⟨by rfl, ?_⟩) hHeld ?_
              rotate_left
              · (intro w hSw; (try dsimp only at hSw); go_simp; try with_reducible rfl)
              try go_frame
              refine wpAnyH_takeL (i := 32) (v := ?_) rfl (by kernel_rfl) (by kernel_rfl) (by kernel_rfl) (fun _ _ _ h => h) (Or.inl ⟨by rfl, ?_⟩) hHeld ?_
              rotate_left
              · (intro w hSw; (try dsimp only at hSw); go_simp; try with_reducible rfl)
              try go_frame
              refine wpAnyH_takeL (i := 33) (v := ?_) rfl (by kernel_rfl) (by kernel_rfl) (by kernel_rfl) (fun _ _ _ h => h) (Or.inl ⟨by rfl, ?_⟩) hHeld ?_
              rotate_left
              · (intro w hSw; (try dsimp only at hSw); go_simp; try with_reducible rfl)
              try go_frame
              refine wpAnyH_takeL (i := 34) (v := ?_) rfl (by kernel_rfl) (by kernel_rfl) (by kernel_rfl) (fun _ _ _ h => h) (Or.inl ⟨by rfl, ?_⟩) hHeld ?_
              rotate_left
              · (intro w hSw; (try dsimp only at hSw); go_simp; try with_reducible rfl)
              try go_frame
              refine wpAnyH_takeL (i := 35) (v := ?_) rfl (by kernel_rfl) (by kernel_rfl) (by kernel_rfl) (fun _ _ _ h => h) (Or.inl ⟨by rfl, ?_⟩) hHeld ?_
              rotate_left
              · (intro w hSw; (try dsimp only at hSw); go_simp; try with_reducible rfl)
              try go_frame
              refine wpAnyH_takeL (i := 36) (v := ?_) rfl (by kernel_rfl) (by kernel_rfl) (by kernel_rfl) (fun _ _ _ h => h) (Or.inl ⟨by rfl, ?_⟩) hHeld ?_
              rotate_left
              · (intro w hSw; (try dsimp only at hSw); go_simp; try with_reducible rfl)
              try go_frame
              refine wpAnyH_takeL (i := 37) (v := ?_) rfl (by kernel_rfl) (by kernel_rfl) (by kernel_rfl) (fun _ _ _ h => h) (Or.inl ⟨by rfl, ?_⟩) hHeld ?_
              rotate_left
              · (intro w hSw; (try dsimp only at hSw); go_simp; try with_reducible rfl)
              try go_frame
              refine wpAnyH_takeL (i := 38) (v := ?_) rfl (by kernel_rfl) (by kernel_rfl) (by kernel_rfl) (fun _ _ _ h => h) (Or.inl ⟨by rfl, ?_⟩) hHeld ?_
              rotate_left
              · (intro w hSw; (try dsimp only at hSw); go_simp; try with_reducible rfl)
              try go_frame
              refine wpAnyH_done (by kernel_rfl) ?_ _
              clear HMK hHeld
              have TV : Hid (FqSt w w2 g n c gs m cs (some ⟨b0, o0, none⟩) ng cg L S F) := HT.out.below k2
              clear k0 k1 k2
              go_wp2
              go_roundw
              case rel => exact ⟨i + 1, by omega, by go_num, TV.out, fun j e hj he => by
                by_cases hji : j < i
                · exact HLT.out j e hji he
                · have : j = i := by omega
                  subst this
                  rw [HY.out] at he
                  cases he
                  exact ⟨by simp only; omega, by simp only; omega⟩⟩
              case measure => simp [intOf] <;> omega
      · have hilI : ¬ (i : Int) < (ng : Int) := by omega
        have HAL : Hid (∀ e ∈ F, Lit2 e) := fun e he => by
          obtain ⟨j, hj⟩ := List.getElem?_of_mem he
          have hjl := (List.getElem?_eq_some_iff.1 hj).1
          have := HGL.out
          exact HLT.out j e (by omega) hj
        have HA2 : Hid (squashL F S b = F) := HAG.out HAL.out
        have HP2 : Hid ((squashL F [] b).Pairwise (fun a b => a.1 ≠ b.1)) := HON.out HAL.out
        have C1 := callsIn_wide.1 (implSquashO 0 ag ng cg F none 0 0 [] b wr HT.out.og.entsAt ⟨rfl, Nat.le_refl _, Nat.zero_le _, (fun q hq => by cases hq), (fun _ => rfl), (fun x e => by cases e), (fun x e => by cases e)⟩ (by omega) (by omega))
        have HL1 : Hid ((squashL F [] b).length ≤ ng) := by have h1 := squashL_len F [] b; have h2 := HGL.out; show (squashL F [] b).length ≤ ng; omega
        obtain ⟨F1, hF1⟩ : ∃ F1, squashL F [] b = F1 := ⟨_, rfl⟩
        rw [hF1] at C1 HP2 HL1
        clear HLT HAG HON HBF HD HAL hF1
        go_wp2_with fail
        refine C1.mono ?_
        rintro e w5 ⟨ao, no, co, rfl, hO5, hb5⟩
        have T5 : Hid (FqSt w w5 g n c gs m cs ag ng cg L S F) := HT.out.below hb5
        have HO5 : Hid (EntsAt w5 ao no co F1) := hO5.entsAt
        have hno : no ≤ ng := by have h1 := hO5.len; have h2 := HL1.out; omega
        have HL5 : Hid (F1.length = no) := hO5.len
        obtain ⟨W5, hW5⟩ : ∃ W5, W5 = w5 := ⟨_, rfl⟩
        subst hW5
        clear hO5 hb5 HT C1 HL1
        go_wp2
        go_loopw [9] (fun iv wr => ∃ i : Nat, 1 ≤ i ∧ (i ≤ no ∨ i = 1) ∧ iv = .int .i64 i ∧ Below W5.heap.size W5 wr) (fun iv _ => no - (intOf iv).toNat)
        case atStart => exact ⟨1, Nat.le_refl _, .inr rfl, rfl, Below.refl _ _⟩
        case round =>
          clear hilI hil hin
          obtain ⟨i, hi1, hin, rfl, hB⟩ := hrel
          have HB : Hid (Below W5.heap.size W5 wr) := hB
          clear hB
          by_cases hil : i < no
          · have hilI : (i : Int) < (no : Int) := by omega
            obtain ⟨p, hp⟩ : ∃ p, i = p + 1 := ⟨i - 1, by omega⟩
            have wi : IntKind.i64.wrap ((i : Int) - 1) = (p : Int) := by
              have e : (i : Int) - 1 = (p : Int) := by omega
              rw [e, IntWalk.i64_left]; unfold wrap64; omega
            have hpI : (p : Int) < (no : Int) := by omega
            obtain ⟨b1, o1, rfl, hbb1⟩ := HO5.out.form (by omega)
            obtain ⟨s', q', d', t', mm', hy, _, e0, _⟩ := HO5.out.ent HB.out hbb1 i hil
            obtain ⟨s, q, d, t, mm, hx, _, g0, _⟩ := HO5.out.ent HB.out hbb1 p (by omega)
            have hss : ¬ s' = s := by
              obtain ⟨hi', ei⟩ := List.getElem?_eq_some_iff.1 hx
              obtain ⟨hj', ej⟩ := List.getElem?_eq_some_iff.1 hy
              have := (List.pairwise_iff_getElem.1 HP2.out) p i hi' hj' (by omega)
              rw [ei, ej] at this
              exact fun e => this e.symm
            have hne : ¬ s'.toList = s.toList := by
              rw [ByteArray.toList_eq, ByteArray.toList_eq]
              intro h
              exact hss (ByteArray.ext (Array.toList_inj.1 h))
            have hne' : (s'.toList == s.toList) = false := by simpa using hne
            have zb : b1 < wr.heap.size := Nat.lt_of_lt_of_le hbb1 HB.out.size
            have k0 : Below wr.heap.size wr wr.drew := (Below.refl _ wr).drew
            have HMK : Hid (∀ w', Below wr.heap.size wr w' → (w'.cell? ⟨b1, o1 + i * 5, none⟩ = some (.string s') ∧ w'.cell? ⟨b1, o1 + p * 5, none⟩ = some (.string s) ∧ b1 < w'.heap.size)) := fun w' kk => ⟨cell_later kk e0, cell_later kk g0, Nat.lt_of_lt_of_le zb kk.size⟩
            clear hx hy e0 g0 hss hp
            go_wp2_with fail
            refine wp_region_held_drew (S := (fun w' => w'.cell? ⟨b1, o1 + i * 5, none⟩ = some (.string s') ∧ w'.cell? ⟨b1, o1 + p * 5, none⟩ = some (.string s) ∧ b1 < w'.heap.size)) (by kernel_rfl) (HMK.out _ k0) (fun hHeld => ?_)
            refine wpAnyH_takeL (i := 0) (v := ?_) rfl (by kernel_rfl) (by kernel_rfl) (by kernel_rfl) (fun _ _ _ h => h) (Or.inl ⟨by rfl, ?_⟩) hHeld ?_
            rotate_left
            · (intro w hSw; (try dsimp only at hSw); go_simp; try with_reducible rfl)
            try go_frame
            refine wpAnyH_takeL (i := 1) (v := ?_) rfl (by kernel_rfl) (by kernel_rfl) (by kernel_rfl) (fun _ _ _ h => h) (Or.inl ⟨by rfl, ?_⟩) hHeld ?_
            rotate_left
            · (intro w hSw; (try dsimp only at hSw); go_simp; try with_reducible rfl)
            try go_frame
            refine wpAnyH_takeL (i := 2) (v := ?_) rfl (by kernel_rfl) (by kernel_rfl) (by kernel_rfl) (fun _ _ _ h => h) (Or.inl ⟨by rfl, ?_⟩) hHeld ?_
            rotate_left
            · (intro w hSw; (try dsimp only at hSw); go_simp; try with_reducible rfl)
            try go_frame
            refine wpAnyH_takeL (i := 3) (v := ?_) rfl (by kernel_rfl) (by kernel_rfl) (by kernel_rfl) (fun _ _ _ h => h) (Or.inl ⟨by rfl, ?_⟩) hHeld ?_
            rotate_left
            · (intro w hSw; (try dsimp only at hSw); go_simp; try with_reducible rfl)
            try go_frame
            refine wpAnyH_takeL (i := 4) (v := ?_) rfl (by kernel_rfl) (by kernel_rfl) (by kernel_rfl) (fun _ _ _ h => h) (Or.inl ⟨by rfl, ?_⟩) hHeld ?_
            rotate_left
            · (intro w hSw; (try dsimp only at hSw); go_simp; try with_reducible rfl)
            try go_frame
            refine wpAnyH_takeL (i := 5) (v := ?_) rfl (by kernel_rfl) (by kernel_rfl) (by kernel_rfl) (fun _ _ _ h => h) (Or.inl ⟨by rfl, ?_⟩) hHeld ?_
            rotate_left
            · (intro w hSw; (try dsimp only at hSw); go_simp; try with_reducible rfl)
            try go_frame
            refine wpAnyH_takeL (i := 6) (v := ?_) rfl (by kernel_rfl) (by kernel_rfl) (by kernel_rfl) (fun _ _ _ h => h) (Or.inl ⟨by rfl, ?_⟩) hHeld ?_
            rotate_left
            · (intro w hSw; (try dsimp only at hSw); go_simp; try with_reducible rfl)
            try go_frame
            refine wpAnyH_takeL (i := 7) (v := ?_) rfl (by kernel_rfl) (by kernel_rfl) (by kernel_rfl) (fun _ _ _ h => h) (Or.inl ⟨by rfl, ?_⟩) hHeld ?_
            rotate_left
            · (intro w hSw; (try dsimp only at hSw); go_simp; try with_reducible rfl)
            try go_frame
            refine wpAnyH_takeL (i := 8) (v := ?_) rfl (by kernel_rfl) (by kernel_rfl) (by kernel_rfl) (fun _ _ _ h => h) (Or.inl ⟨by rfl, ?_⟩) hHeld ?_
            rotate_left
            · (intro w hSw; (try dsimp only at hSw); go_simp; try with_reducible rfl)
            try go_frame
            refine wpAnyH_takeL (i := 9) (v := ?_) rfl (by kernel_rfl) (by kernel_rfl) (by kernel_rfl) (fun _ _ _ h => h) (Or.inl ⟨by rfl, ?_⟩) hHeld ?_
            rotate_left
            · (intro w hSw; (try dsimp only at hSw); go_simp; try with_reducible rfl)
            try go_frame
            refine wpAnyH_takeL (i := 10) (v := ?_) rfl (by kernel_rfl) (by kernel_rfl) (by kernel_rfl) (fun _ _ _ h => h) (Or.inl ⟨by rfl, ?_⟩) hHeld ?_
            rotate_left
            · (intro w hSw; (try dsimp only at hSw); go_simp; try with_reducible rfl)
            try go_frame
            refine wpAnyH_takeL (i := 11) (v := ?_) rfl (by kernel_rfl) (by kernel_rfl) (by kernel_rfl) (fun _ _ _ h => h) (Or.inl ⟨by rfl, ?_⟩) hHeld ?_
            rotate_left
            · (intro w hSw; (try dsimp only at hSw); go_simp; try with_reducible rfl)
            try go_frame
            refine wpAnyH_done (by kernel_rfl) ?_ _
            clear HMK hHeld
            have HB2 : Hid (Below W5.heap.size W5 wr.drew) := HB.out.trans (k0.mono HB.out.size)
            clear k0 HB
            go_wp2
            go_roundw
            case rel => exact ⟨i + 1, by omega, by omega, by go_num, HB2.out⟩
            case measure => simp [intOf]; omega
          · have hilI : ¬ (i : Int) < (no : Int) := by omega
            have T6 : Hid (FqSt w wr g n c gs m cs ag ng cg L S F) := T5.out.below HB.out
            have C2 := callsIn_wide.1 (implSquashO _ ag ng cg F _ m cs S b wr T6.out.og.entsAt T6.out.ot.ints (by omega) (by omega))
            rw [HA2.out] at C2
            clear HB T5
            go_wp2_with fail
            refine C2.mono ?_
            rintro e w7 ⟨ah, nh, ch, rfl, hO7, hb7⟩
            have T7 : Hid (FqSt w w7 g n c gs m cs ag ng cg L S F) := T6.out.below hb7
            have HO7 : Hid (EntsAt w7 ah nh ch F) := hO7.entsAt
            clear T6 hO7 hb7 C2
            go_wp2_with fail
            refine (wpEnts_any _ _ _ _ _ _ F F _ HO7.out T7.out.og.entsAt).mono ?_
            rintro e w8 ⟨rfl, hb8⟩
            have HB8 : Hid (Below w.heap.size w w8) := (T7.out.below hb8).all
            clear hb8 T7 HO7
            go_wp2
            go_ret
            exact ⟨by simp, HB8.out⟩
  · have hlI : (1048576 : Int) < (len : Int) := by omega
    go_enter Try.func8, Try.ntmps8
    go_wp2
    go_ret
    exact ⟨rfl, Below.refl _ _⟩
end Go.Proofs.Ythhiahjafhkbbaa
