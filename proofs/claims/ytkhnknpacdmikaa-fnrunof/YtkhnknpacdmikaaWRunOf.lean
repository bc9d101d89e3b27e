/-
  The walk of the law FnRunOf: it answers true at all bytes: a run has what it was made of, in order.
-/
import Derived.Test.YtkhnknpacdmikaaDrawOf
import Derived.Test.YtkhnknpacdmikaaRunOfX
import Derived.Test.YtkhnknpacdmikaaRunSame
import Derived.Test.YtkhnknpacdmikaaCutP
import Derived.Test.YtkhnknpacdmikaaLess
namespace Go.Proofs.Ytkhnknpacdmikaa
open Go.RowKit

set_option maxRecDepth 100000 in
theorem eql_ent_same (s t : ByteArray) (q d n : Int) (w : World) : (binOp .eql 31 (.agg #[.string s, .int .i64 q, .int .i64 d, .string t, .int .i64 n]) (.agg #[.string s, .int .i64 q, .int .i64 d, .string t, .int .i64 n])).run Try.prog w = .ok (.bool true) w := by
  have hs := run_equalIn_struct (P := Try.prog) w 9999 31 #[.string s, .int .i64 q, .int .i64 d, .string t, .int .i64 n] #[.string s, .int .i64 q, .int .i64 d, .string t, .int .i64 n] (by kernel_rfl) (by kernel_rfl)
  simp [binOp, Op.equal, Op.maxDepth, hs, go_sem, Try.underlying31]
set_option maxRecDepth 100000 in
theorem eql_ent_diff (s t : ByteArray) (q d n : Int) (s' t' : ByteArray) (q' d' n' : Int) (w : World) (h : ¬ ((s, q, d, t, n) : EntD) = (s', q', d', t', n')) : (binOp .eql 31 (.agg #[.string s, .int .i64 q, .int .i64 d, .string t, .int .i64 n]) (.agg #[.string s', .int .i64 q', .int .i64 d', .string t', .int .i64 n'])).run Try.prog w = .ok (.bool false) w := by
  have hs := run_equalIn_struct (P := Try.prog) w 9999 31 #[.string s, .int .i64 q, .int .i64 d, .string t, .int .i64 n] #[.string s', .int .i64 q', .int .i64 d', .string t', .int .i64 n'] (by kernel_rfl) (by kernel_rfl)
  by_cases h1 : s = s'
  · subst h1
    by_cases h2 : q = q'
    · subst h2
      by_cases h3 : d = d'
      · subst h3
        by_cases h4 : t = t'
        · subst h4
          have h5 : ¬ n = n' := fun e => h (by rw [e])
          simp [binOp, Op.equal, Op.maxDepth, hs, go_sem, Try.underlying31, h5]
        · have h4' := bytes_ne h4
          simp [binOp, Op.equal, Op.maxDepth, hs, go_sem, Try.underlying31, h4']
      · simp [binOp, Op.equal, Op.maxDepth, hs, go_sem, Try.underlying31, h3]
    · simp [binOp, Op.equal, Op.maxDepth, hs, go_sem, Try.underlying31, h2]
  · have h4 := bytes_ne h1
    simp [binOp, Op.equal, Op.maxDepth, hs, go_sem, Try.underlying31, h4]

/-- How often an entry is among the first k of entries of which no two are alike. -/
def hasTo (F : List EntD) (e : EntD) (k : Nat) : Nat := if ∃ j, j < k ∧ F[j]? = some e then 1 else 0
theorem hasTo_zero (F : List EntD) (e : EntD) : hasTo F e 0 = 0 := by
  unfold hasTo
  rw [if_neg]
  rintro ⟨j, hj, _⟩
  omega
theorem hasTo_yes {F : List EntD} {e : EntD} {k : Nat} (h : rightB F = true) (hk : F[k]? = some e) : hasTo F e (k + 1) = hasTo F e k + 1 := by
  unfold hasTo
  rw [if_pos ⟨k, by omega, hk⟩, if_neg]
  rintro ⟨j, hj, hje⟩
  have := right_less h hj hje hk
  rw [lessB_self] at this
  cases this
theorem hasTo_no {F : List EntD} {e x : EntD} {k : Nat} (hk : F[k]? = some x) (hne : ¬ x = e) : hasTo F e (k + 1) = hasTo F e k := by
  unfold hasTo
  have : (∃ j, j < k + 1 ∧ F[j]? = some e) ↔ (∃ j, j < k ∧ F[j]? = some e) := by
    constructor
    · rintro ⟨j, hj, hje⟩
      refine ⟨j, ?_, hje⟩
      by_cases e1 : j = k
      · subst e1
        rw [hk] at hje
        cases hje
        exact absurd rfl hne
      · omega
    · rintro ⟨j, hj, hje⟩
      exact ⟨j, by omega, hje⟩
  simp only [this]
theorem hasTo_all {F : List EntD} {e : EntD} (h : e ∈ F) : hasTo F e F.length = 1 := by
  obtain ⟨j, hj, rfl⟩ := List.getElem_of_mem h
  unfold hasTo
  rw [if_pos ⟨j, hj, List.getElem?_eq_getElem hj⟩]
theorem hasTo_le (F : List EntD) (e : EntD) (k : Nat) : hasTo F e k ≤ 1 := by
  unfold hasTo
  split <;> omega
theorem of_facts {L : List EntD} (h : ofB L = true) : rightB (ofL L) = true ∧ (∀ e ∈ L, e ∈ ofL L) ∧ (ofL L).length = L.length ∧ 1 ≤ L.length ∧ L.length ≤ 150 ∧ runB (ofL L) (ofM L) = true ∧ ofB (ofL L) = true ∧ ofL (ofL L) = ofL L ∧ ofM (ofL L) = ofM L := by
  obtain ⟨k1, k2, k3⟩ := of_run h
  obtain ⟨r1, r2, r3, r4⟩ := runB_parts k1
  have hl : (ofL L).length = L.length := by rw [k2, sortE_len]
  obtain ⟨q1, q2, q3⟩ := of_right r3 r1 r2
  refine ⟨r3, fun e he => by rw [k2]; exact (sort_both L).2.mem_iff.2 he, hl, by omega, by omega, k1, q1, q2, ?_⟩
  obtain ⟨_, _, _, r5⟩ := runB_parts q3
  rw [r5, r4]

set_option maxRecDepth 100000 in
set_option maxHeartbeats 8000000 in
theorem walkFnRunOf (a : Option Addr) (len cap : Nat) (w : World) (h : BytesAt w a len cap) :
    Calls Try.prog 3 #[.slice a len cap] w fun e w' => e = .returned (.bool true) ∧ Below w.heap.size w w' := by
  have H : Hid (BytesAt w a len cap) := h
  have hm := Nat.le_trans h.1 h.2.1
  unfold maxLen at hm
  clear h
  by_cases hbig : 1048576 < len
  · go_enter Try.func3, Try.ntmps3
    go_wp2
    go_ret
    exact ⟨rfl, Below.refl _ _⟩
  go_enter Try.func3, Try.ntmps3
  go_wp2_with fail
  refine (drawOf_any a len cap w H.out).mono ?_
  rintro e w1 ⟨g, n, c, L, rfl, hO, hn, hb1⟩
  have HLN : Hid (L.length = n) := hO.len
  have E1 : Hid (EntsAt w1 (some ⟨g, 0, none⟩) n c L) := hO.entsAt
  have K1 : Hid (Below w.heap.size w w1) := hb1
  clear hO hb1
  obtain ⟨F, hF⟩ : ∃ F, F = ofL L := ⟨_, rfl⟩
  obtain ⟨M, hM⟩ : ∃ M, M = ofM L := ⟨_, rfl⟩
  obtain ⟨B, hB⟩ : ∃ B, B = ofB L := ⟨_, rfl⟩
  have CI : Hid (∀ w', Below w1.heap.size w1 w' → Calls Try.prog 10 #[.slice (some ⟨g, 0, none⟩) n c] w' (OfR F M B w')) := by rw [hF, hM, hB]; exact fun w' k => implRunOf g n c L w' (E1.out.keep k)
  have CS : Hid (∀ w', Below w1.heap.size w1 w' → Calls Try.prog 11 #[.slice (some ⟨g, 0, none⟩) n c] w' (OfR F M B w')) := by rw [hF, hM, hB]; exact fun w' k => specRunOf (some ⟨g, 0, none⟩) n c L w' (E1.out.keep k)
  have HFF : Hid (F = ofL L) := hF
  have HMM : Hid (M = ofM L) := hM
  have HBB : Hid (B = ofB L) := hB
  clear hF hM hB
  go_wp2_with fail
  refine (CI.out _ (Below.refl _ _)).mono ?_
  rintro e w2 ⟨aR, nR, cR, rfl, hOR, hb2⟩
  obtain ⟨X, hX⟩ : ∃ X, X = w2.heap.size := ⟨_, rfl⟩
  obtain ⟨W2, hW2⟩ : ∃ W2, W2 = w2.alloc (.cells #[.slice aR nR cR, .int .i64 M] 26) := ⟨_, rfl⟩
  have kW2 : Below w2.heap.size w2 W2 := by rw [hW2]; exact (Below.refl _ _).alloc (Nat.le_refl _) _
  have x0 : W2.cell? ⟨X, 0, none⟩ = some (.slice aR nR cR) := by rw [hW2, hX]; simp
  have x1 : W2.cell? ⟨X, 1, none⟩ = some (.int .i64 M) := by rw [hW2, hX]; simp
  have HOR : Hid (OwnO w2 w1.heap.size aR nR cR F) := hOR
  have ER : Hid (EntsAt W2 aR nR cR F) := hOR.entsAt.keep kW2
  have HRN : Hid (F.length = nR) := hOR.len
  have K2 : Hid (Below w1.heap.size w1 W2) := hb2.trans (kW2.mono hb2.size)
  clear hOR hb2 kW2 CI
  go_wp2_with fail
  rw [← hX, ← hW2]
  clear hX hW2
  refine (CS.out _ K2.out).mono ?_
  rintro e w3 ⟨aS, nS, cS, rfl, hOS, hb3⟩
  obtain ⟨Y, hY⟩ : ∃ Y, Y = w3.heap.size := ⟨_, rfl⟩
  obtain ⟨W3, hW3⟩ : ∃ W3, W3 = w3.alloc (.cells #[.slice aS nS cS, .int .i64 M] 26) := ⟨_, rfl⟩
  have kW3 : Below w3.heap.size w3 W3 := by rw [hW3]; exact (Below.refl _ _).alloc (Nat.le_refl _) _
  have k23 : Below W2.heap.size W2 W3 := hb3.trans (kW3.mono hb3.size)
  have xx0 := cell_later hb3 x0
  have xx1 := cell_later hb3 x1
  have zxx := World.block_lt_of_cell? _ _ xx0
  simp only at zxx
  have x0 := cell_later k23 x0
  have x1 := cell_later k23 x1
  have y0 : W3.cell? ⟨Y, 0, none⟩ = some (.slice aS nS cS) := by rw [hW3, hY]; simp
  have y1 : W3.cell? ⟨Y, 1, none⟩ = some (.int .i64 M) := by rw [hW3, hY]; simp
  have ER : Hid (EntsAt W3 aR nR cR F) := ER.out.keep k23
  have ES : Hid (EntsAt W3 aS nS cS F) := hOS.entsAt.keep kW3
  have K3 : Hid (Below w1.heap.size w1 W3) := K2.out.trans (k23.mono K2.out.size)
  have E3 : Hid (EntsAt W3 (some ⟨g, 0, none⟩) n c L) := E1.out.keep K3.out
  have KW : Hid (Below w.heap.size w W3) := K1.out.trans (K3.out.mono K1.out.size)
  have CRS : Hid (∀ w', Below W3.heap.size W3 w' → Calls Try.prog 12 #[.agg #[.slice aR nR cR, .int .i64 M], .agg #[.slice aS nS cS, .int .i64 M]] w' fun e w'' => e = .returned (.bool true) ∧ Below w'.heap.size w' w'') := by
    have hsame : runSameB M F M F = true := by simp [runSameB]
    rw [← hsame]
    exact fun w' k => implRunSame _ _ _ _ _ _ _ _ F F w' (ER.out.keep k) (ES.out.keep k)
  clear hOS hb3 kW3 k23 K2 CS ES K1 E1 K3
  go_wp2_with fail
  rw [← hY, ← hW3]
  clear hY hW3 xx0 xx1 zxx
  refine (CRS.out _ (Below.refl _ _)).mono ?_
  rintro e w4 ⟨rfl, hb4⟩
  have K4 : Hid (Below W3.heap.size W3 w4) := hb4
  have v0 := cell_later hb4 x0
  have v1 := cell_later hb4 x1
  have zv := World.block_lt_of_cell? _ _ v0
  simp only at zv
  clear hb4 CRS y0 y1
  cases hBv : B with
  | false =>
    have hFn : F = [] ∧ M = 0 := by
      have e1 : ofB L = false := by rw [← HBB.out]; exact hBv
      rw [HFF.out, HMM.out]
      unfold ofL ofM
      rw [e1]
      exact ⟨rfl, rfl⟩
    obtain ⟨hF0, hM0⟩ := hFn
    have HE0 : Hid (∀ w', Below W3.heap.size W3 w' → EntsAt w' aR nR cR []) := fun w' k => by have := ER.out.keep k; rw [hF0] at this; exact this
    have hs0 : runSameB 0 [] 0 [] = true := by decide
    have C0 : Hid (∀ w', Below W3.heap.size W3 w' → Calls Try.prog 12 #[.agg #[.slice aR nR cR, .int .i64 0], .agg #[.slice none 0 0, .int .i64 0]] w' fun e w'' => e = .returned (.bool true) ∧ Below w'.heap.size w' w'') := by
      rw [← hs0]
      exact fun w' k => implRunSame 0 0 aR none nR cR 0 0 [] [] w' (HE0.out w' k) ⟨rfl, Nat.le_refl _, Nat.zero_le _, by simp, fun _ => rfl, (fun x e => by cases e), (fun x e => by cases e)⟩
    subst hM0
    clear hF0 hs0 HE0 HMM
    go_wp2_with fail
    refine (C0.out _ K4.out).mono ?_
    rintro e w5 ⟨rfl, hb5⟩
    have K5 : Hid (Below W3.heap.size W3 w5) := K4.out.trans (hb5.mono K4.out.size)
    clear hb5
    go_wp2
    go_ret
    exact ⟨rfl, KW.out.trans (K5.out.mono KW.out.size)⟩
  | true =>
    have HOB : Hid (ofB L = true) := by rw [← HBB.out]; exact hBv
    obtain ⟨p1, p2, p3, p4, p5, p6, p7, p8, p9⟩ := of_facts HOB.out
    rw [← HFF.out] at p1 p2 p3 p6 p7 p8 p9
    rw [← HMM.out] at p6 p9
    have hnR : nR = n := by rw [← HRN.out, p3, HLN.out]
    subst hnR
    have hn1 : 1 ≤ nR := by rw [← HLN.out]; exact p4
    have hn2 : nR ≤ 150 := by rw [← HLN.out]; exact p5
    obtain ⟨gr, rfl⟩ : ∃ gr, aR = some ⟨gr, 0, none⟩ := by
      cases aR with
      | none => have := (HOR.out.nil rfl).1; omega
      | some x => obtain ⟨g', rfl, _⟩ := HOR.out.own x rfl; exact ⟨g', rfl⟩
    have P1 : Hid (rightB F = true) := p1
    have P2 : Hid (∀ e ∈ L, e ∈ F) := p2
    have P6 : Hid (runB F M = true) := p6
    have P7 : Hid (ofB F = true ∧ ofL F = F ∧ ofM F = M) := ⟨p7, p8, p9⟩
    clear p1 p2 p3 p4 p5 p6 p7 p8 p9 HOR HBB HFF HMM HOB hBv
    go_wp2
    go_loopw [8] (fun iv wr => ∃ i : Nat, i ≤ nR ∧ iv = .int .i64 i ∧ Below W3.heap.size W3 wr) (fun iv _ => nR - (intOf iv).toNat)
    case atStart => exact ⟨0, Nat.zero_le _, rfl, K4.out⟩
    case round =>
      obtain ⟨i, hi, rfl, hb⟩ := hrel
      have HBI : Hid (Below W3.heap.size W3 wr) := hb
      clear v0 v1 zv
      by_cases hin : i < nR
      · have hinI : (i : Int) < (nR : Int) := by omega
        have hgl := (E3.out.lies _ rfl (by omega)).1
        simp only at hgl
        obtain ⟨s, q, d, t, nn, hLi, _, _⟩ := E3.out.ent hb hgl i hin
        have HLI : Hid (L[i]? = some (s, q, d, t, nn)) := hLi
        clear hLi hb hgl
        go_wp2
        go_loopw [9, 10] (fun hv kv wq => ∃ k : Nat, k ≤ nR ∧ kv = .int .i64 k ∧ hv = .int .i64 (hasTo F (s, q, d, t, nn) k : Nat) ∧ Below W3.heap.size W3 wq) (fun _ kv _ => nR - (intOf kv).toNat)
        case atStart => exact ⟨0, Nat.zero_le _, rfl, by rw [hasTo_zero]; rfl, HBI.out⟩
        case round =>
          obtain ⟨k, hk, rfl, rfl, hbk⟩ := hrel
          have v0 := cell_later hbk x0
          have zv := World.block_lt_of_cell? _ _ v0
          simp only at zv
          have HBK : Hid (Below W3.heap.size W3 wr) := hbk
          have hle := hasTo_le F (s, q, d, t, nn) k
          by_cases hkn : k < nR
          · have hknI : (k : Int) < (nR : Int) := by omega
            have hgl := (E3.out.lies _ rfl (by omega)).1
            have hgl2 := (ER.out.lies _ rfl (by omega)).1
            simp only at hgl hgl2
            obtain ⟨s1, q1, d1, t1, n1, hL1, _, g0, g1, g2, g3, g4⟩ := E3.out.ent hbk hgl i hin
            rw [HLI.out] at hL1
            cases hL1
            obtain ⟨s', q', d', t', n', hFk, _, e0, e1, e2, e3, e4⟩ := ER.out.ent hbk hgl2 k hkn
            have HFK : Hid (F[k]? = some (s', q', d', t', n')) := hFk
            simp only [Nat.zero_add] at g0 g1 g2 g3 g4 e0 e1 e2 e3 e4
            have zg := Nat.lt_of_lt_of_le hgl hbk.size
            have zg2 := Nat.lt_of_lt_of_le hgl2 hbk.size
            clear hFk hbk hgl hgl2
            by_cases hl : ((s', q', d', t', n') : EntD) = (s, q, d, t, nn)
            · cases hl
              have heq := eql_ent_same s t q d nn
              obtain ⟨hh, hhe⟩ : ∃ hh, hh = hasTo F (s, q, d, t, nn) k := ⟨_, rfl⟩
              have HST : Hid (hasTo F (s, q, d, t, nn) (k + 1) = hh + 1) := by rw [hhe]; exact hasTo_yes P1.out HFK.out
              rw [← hhe] at hle ⊢
              clear hhe
              go_wp2_with fail
              go_quiet (fail)
              go_wp2
              go_roundw
              case rel => exact ⟨k + 1, by omega, by go_num, by rw [HST.out]; go_num, below_drewN HBK.out _⟩
              case measure => simp [intOf]; omega
            · have heq := fun w => eql_ent_diff s' t' q' d' n' s t q d nn w hl
              have HST : Hid (hasTo F (s, q, d, t, nn) (k + 1) = hasTo F (s, q, d, t, nn) k) := hasTo_no HFK.out hl
              obtain ⟨hh, hhe⟩ : ∃ hh, hh = hasTo F (s, q, d, t, nn) k := ⟨_, rfl⟩
              rw [← hhe] at HST hle ⊢
              clear hhe hl
              go_wp2_with fail
              go_quiet (fail)
              go_wp2
              go_roundw
              case rel => exact ⟨k + 1, by omega, by go_num, by rw [HST.out], below_drewN HBK.out _⟩
              case measure => simp [intOf]; omega
          · have hknI : ¬ (k : Int) < (nR : Int) := by omega
            have hkk : k = nR := by omega
            have hone : hasTo F (s, q, d, t, nn) k = 1 := by
              rw [hkk, ← HRN.out]
              exact hasTo_all (P2.out _ (List.mem_of_getElem? HLI.out))
            rw [hone]
            clear hle hkk hone hbk
            have k0 : Below wr.heap.size wr wr.drew := (Below.refl _ wr).drew
            by_cases hi0 : i = 0
            · subst hi0
              have HMK : Hid (∀ w', Below wr.heap.size wr w' → (w'.cell? ⟨X, 0, none⟩ = some (.slice (some ⟨gr, 0, none⟩) nR cR) ∧ X < w'.heap.size)) := fun w' kk => ⟨cell_later kk v0, World.block_lt_of_cell? _ _ (cell_later kk v0)⟩
              go_wp2_with fail
              refine wp_region_held_drew (S := (fun w' => w'.cell? ⟨X, 0, none⟩ = some (.slice (some ⟨gr, 0, none⟩) nR cR) ∧ X < w'.heap.size)) (by kernel_rfl) (HMK.out _ k0) (fun hHeld => ?_)
              refine wpAnyH_takeL (i := 0) (v := ?_) rfl (by kernel_rfl) (by kernel_rfl) (by kernel_rfl) (fun _ _ _ h => h) (Or.inl ⟨by rfl, ?_⟩) hHeld ?_
              rotate_left
              · (intro w hSw; (try dsimp only at hSw); go_simp; try with_reducible rfl)
              try go_frame
              refine wpAnyH_takeL (i := 1) (v := ?_) rfl (by kernel_rfl) (by kernel_rfl) (by kernel_rfl) (fun _ _ _ h => h) (Or.inl ⟨by rfl, ?_⟩) hHeld ?_
              rotate_left
              · (intro w hSw; (try dsimp only at hSw); go_simp; try with_reducible rfl)
              try go_frame
              refine wpAnyH_takeL (i := 2) (v := ?_) rfl (by kernel_rfl) (by kernel_rfl) (by kernel_rfl) (fun _ _ _ h => h) (Or.inl ⟨by rfl, ?_⟩) hHeld ?_
              rotate_left
              · (intro w hSw; (try dsimp only at hSw); go_simp; try with_reducible rfl)
              try go_frame
              refine wpAnyH_takeL (i := 3) (v := ?_) rfl (by kernel_rfl) (by kernel_rfl) (by kernel_rfl) (fun _ _ _ h => h) (Or.inl ⟨by rfl, ?_⟩) hHeld ?_
              rotate_left
              · (intro w hSw; (try dsimp only at hSw); go_simp; try with_reducible rfl)
              try go_frame
              refine wpAnyH_takeL (i := 4) (v := ?_) rfl (by kernel_rfl) (by kernel_rfl) (by kernel_rfl) (fun _ _ _ h => h) (Or.inl ⟨by rfl, ?_⟩) hHeld ?_
              rotate_left
              · (intro w hSw; (try dsimp only at hSw); go_simp; try with_reducible rfl)
              try go_frame
              refine wpAnyH_takeL (i := 5) (v := ?_) rfl (by kernel_rfl) (by kernel_rfl) (by kernel_rfl) (fun _ _ _ h => h) (Or.inl ⟨by rfl, ?_⟩) hHeld ?_
              rotate_left
              · (intro w hSw; (try dsimp only at hSw); go_simp; try with_reducible rfl)
              try go_frame
              refine wpAnyH_takeL (i := 6) (v := undef) rfl (by kernel_rfl) (by kernel_rfl) (by kernel_rfl) (fun _ _ _ h => h) (Or.inr ⟨by rfl, rfl⟩) hHeld ?_
              try go_frame
              refine wpAnyH_takeL (i := 7) (v := undef) rfl (by kernel_rfl) (by kernel_rfl) (by kernel_rfl) (fun _ _ _ h => h) (Or.inr ⟨by rfl, rfl⟩) hHeld ?_
              try go_frame
              refine wpAnyH_takeL (i := 8) (v := undef) rfl (by kernel_rfl) (by kernel_rfl) (by kernel_rfl) (fun _ _ _ h => h) (Or.inr ⟨by rfl, rfl⟩) hHeld ?_
              try go_frame
              refine wpAnyH_takeL (i := 9) (v := undef) rfl (by kernel_rfl) (by kernel_rfl) (by kernel_rfl) (fun _ _ _ h => h) (Or.inr ⟨by rfl, rfl⟩) hHeld ?_
              try go_frame
              refine wpAnyH_takeL (i := 10) (v := undef) rfl (by kernel_rfl) (by kernel_rfl) (by kernel_rfl) (fun _ _ _ h => h) (Or.inr ⟨by rfl, rfl⟩) hHeld ?_
              try go_frame
              refine wpAnyH_takeL (i := 11) (v := undef) rfl (by kernel_rfl) (by kernel_rfl) (by kernel_rfl) (fun _ _ _ h => h) (Or.inr ⟨by rfl, rfl⟩) hHeld ?_
              try go_frame
              refine wpAnyH_takeL (i := 12) (v := undef) rfl (by kernel_rfl) (by kernel_rfl) (by kernel_rfl) (fun _ _ _ h => h) (Or.inr ⟨by rfl, rfl⟩) hHeld ?_
              try go_frame
              refine wpAnyH_takeL (i := 13) (v := undef) rfl (by kernel_rfl) (by kernel_rfl) (by kernel_rfl) (fun _ _ _ h => h) (Or.inr ⟨by rfl, rfl⟩) hHeld ?_
              try go_frame
              refine wpAnyH_takeL (i := 14) (v := undef) rfl (by kernel_rfl) (by kernel_rfl) (by kernel_rfl) (fun _ _ _ h => h) (Or.inr ⟨by rfl, rfl⟩) hHeld ?_
              try go_frame
              refine wpAnyH_takeL (i := 15) (v := undef) rfl (by kernel_rfl) (by kernel_rfl) (by kernel_rfl) (fun _ _ _ h => h) (Or.inr ⟨by rfl, rfl⟩) hHeld ?_
              try go_frame
              refine wpAnyH_takeL (i := 16) (v := undef) rfl (by kernel_rfl) (by kernel_rfl) (by kernel_rfl) (fun _ _ _ h => h) (Or.inr ⟨by rfl, rfl⟩) hHeld ?_
              try go_frame
              refine wpAnyH_ready (rs := [17]) (by kernel_rfl) (by simp) ?_
              refine consL rfl (fun K hK => ?_) AllReadyH.nil
              go_simp
              refine hK.out _ _ (HMK.out _ k0) (fun hHeld => ?_)
              clear hK K
              try go_frame
              refine wpAnyH_takeL (i := 18) (v := undef) rfl (by kernel_rfl) (by kernel_rfl) (by kernel_rfl) (fun _ _ _ h => h) (Or.inr ⟨by rfl, rfl⟩) hHeld ?_
              try go_frame
              refine wpAnyH_takeL (i := 19) (v := ?_) rfl (by kernel_rfl) (by kernel_rfl) (by kernel_rfl) (fun _ _ _ h => h) (Or.inl ⟨by rfl, ?_⟩) hHeld ?_
              rotate_left
              · (intro w hSw; (try dsimp only at hSw); go_simp; try with_reducible rfl)
              try go_frame
              refine wpAnyH_takeL (i := 20) (v := ?_) rfl (by kernel_rfl) (by kernel_rfl) (by kernel_rfl) (fun _ _ _ h => h) (Or.inl ⟨by rfl, ?_⟩) hHeld ?_
              rotate_left
              · (intro w hSw; (try dsimp only at hSw); go_simp; try with_reducible rfl)
              try go_frame
              refine wpAnyH_done (by kernel_rfl) ?_ _
              have KZ : Hid (Below W3.heap.size W3 wr.drew) := HBK.out.trans (k0.mono HBK.out.size)
              clear k0 HMK hHeld v0 zv
              go_wp2
              go_roundw
              case rel => exact ⟨0 + 1, by omega, by go_num, KZ.out⟩
              case measure => simp [intOf]; omega
            · have hip : 0 < i := by omega
              have hipI : (0 : Int) < (i : Int) := by omega
              have hj1 : (0 : Int) ≤ (i : Int) - 1 := by omega
              have hj2 : (i : Int) - 1 < (nR : Int) := by omega
              have hj3 : (1 : Int) ≤ (i : Int) := by omega
              have hjt : ((i : Int) - 1).toNat = i - 1 := by omega
              have wj : IntKind.i64.wrap ((i : Int) - 1) = (i : Int) - 1 := by rw [IntWalk.i64_left]; unfold wrap64; omega
              have hgl2 := (ER.out.lies _ rfl (by omega)).1
              simp only at hgl2
              obtain ⟨s, q, d, t, nn, hFi, _, g0, g1, g2, g3, g4⟩ := ER.out.ent HBK.out hgl2 i hin
              obtain ⟨s', q', d', t', nn', hFj, _, e0, e1, e2, e3, e4⟩ := ER.out.ent HBK.out hgl2 (i - 1) (by omega)
              simp only [Nat.zero_add] at g0 g1 g2 g3 g4 e0 e1 e2 e3 e4
              have hls : lessB s' q' s q = true := right_less P1.out (i := i - 1) (j := i) (by omega) hFj hFi
              have CL : Hid (∀ w', Calls Try.prog 13 #[.agg #[.string s', .int .i64 q', .int .i64 d', .string t', .int .i64 nn'], .agg #[.string s, .int .i64 q, .int .i64 d, .string t, .int .i64 nn]] w' fun e w'' => e = .returned (.bool true) ∧ Below w'.heap.size w' w'') := by rw [← hls]; exact fun w' => implLess s' t' s t q' d' nn' q d nn w'
              clear hls hFi hFj hgl2
              have HMK : Hid (∀ w', Below wr.heap.size wr w' → (w'.cell? ⟨X, 0, none⟩ = some (.slice (some ⟨gr, 0, none⟩) nR cR) ∧ X < w'.heap.size ∧ w'.cell? ⟨gr, i * 5, none⟩ = some (.string s) ∧ w'.cell? ⟨gr, i * 5 + 1, none⟩ = some (.int .i64 q) ∧ w'.cell? ⟨gr, i * 5 + 2, none⟩ = some (.int .i64 d) ∧ w'.cell? ⟨gr, i * 5 + 3, none⟩ = some (.string t) ∧ w'.cell? ⟨gr, i * 5 + 4, none⟩ = some (.int .i64 nn) ∧ w'.cell? ⟨gr, (i - 1) * 5, none⟩ = some (.string s') ∧ w'.cell? ⟨gr, (i - 1) * 5 + 1, none⟩ = some (.int .i64 q') ∧ w'.cell? ⟨gr, (i - 1) * 5 + 2, none⟩ = some (.int .i64 d') ∧ w'.cell? ⟨gr, (i - 1) * 5 + 3, none⟩ = some (.string t') ∧ w'.cell? ⟨gr, (i - 1) * 5 + 4, none⟩ = some (.int .i64 nn') ∧ gr < w'.heap.size)) := fun w' kk => ⟨cell_later kk v0, World.block_lt_of_cell? _ _ (cell_later kk v0), cell_later kk g0, cell_later kk g1, cell_later kk g2, cell_later kk g3, cell_later kk g4, cell_later kk e0, cell_later kk e1, cell_later kk e2, cell_later kk e3, cell_later kk e4, World.block_lt_of_cell? _ _ (cell_later kk g0)⟩
              go_wp2_with fail
              refine wp_region_held_drew (S := (fun w' => w'.cell? ⟨X, 0, none⟩ = some (.slice (some ⟨gr, 0, none⟩) nR cR) ∧ X < w'.heap.size ∧ w'.cell? ⟨gr, i * 5, none⟩ = some (.string s) ∧ w'.cell? ⟨gr, i * 5 + 1, none⟩ = some (.int .i64 q) ∧ w'.cell? ⟨gr, i * 5 + 2, none⟩ = some (.int .i64 d) ∧ w'.cell? ⟨gr, i * 5 + 3, none⟩ = some (.string t) ∧ w'.cell? ⟨gr, i * 5 + 4, none⟩ = some (.int .i64 nn) ∧ w'.cell? ⟨gr, (i - 1) * 5, none⟩ = some (.string s') ∧ w'.cell? ⟨gr, (i - 1) * 5 + 1, none⟩ = some (.int .i64 q') ∧ w'.cell? ⟨gr, (i - 1) * 5 + 2, none⟩ = some (.int .i64 d') ∧ w'.cell? ⟨gr, (i - 1) * 5 + 3, none⟩ = some (.string t') ∧ w'.cell? ⟨gr, (i - 1) * 5 + 4, none⟩ = some (.int .i64 nn') ∧ gr < w'.heap.size)) (by kernel_rfl) (HMK.out _ k0) (fun hHeld => ?_)
              refine wpAnyH_takeL (i := 0) (v := ?_) rfl (by kernel_rfl) (by kernel_rfl) (by kernel_rfl) (fun _ _ _ h => h) (Or.inl ⟨by rfl, ?_⟩) hHeld ?_
              rotate_left
              · (intro w hSw; (try dsimp only at hSw); go_simp; try with_reducible rfl)
              try go_frame
              refine wpAnyH_takeL (i := 1) (v := ?_) rfl (by kernel_rfl) (by kernel_rfl) (by kernel_rfl) (fun _ _ _ h => h) (Or.inl ⟨by rfl, ?_⟩) hHeld ?_
              rotate_left
              · (intro w hSw; (try dsimp only at hSw); go_simp; try with_reducible rfl)
              try go_frame
              refine wpAnyH_takeL (i := 2) (v := ?_) rfl (by kernel_rfl) (by kernel_rfl) (by kernel_rfl) (fun _ _ _ h => h) (Or.inl ⟨by rfl, ?_⟩) hHeld ?_
              rotate_left
              · (intro w hSw; (try dsimp only at hSw); go_simp; try with_reducible rfl)
              try go_frame
              refine wpAnyH_takeL (i := 3) (v := ?_) rfl (by kernel_rfl) (by kernel_rfl) (by kernel_rfl) (fun _ _ _ h => h) (Or.inl ⟨by rfl, ?_⟩) hHeld ?_
              rotate_left
              · (intro w hSw; (try dsimp only at hSw); go_simp; try with_reducible rfl)
              try go_frame
              refine wpAnyH_takeL (i := 4) (v := ?_) rfl (by kernel_rfl) (by kernel_rfl) (by kernel_rfl) (fun _ _ _ h => h) (Or.inl ⟨by rfl, ?_⟩) hHeld ?_
              rotate_left
              · (intro w hSw; (try dsimp only at hSw); go_simp; try with_reducible rfl)
              try go_frame
              refine wpAnyH_takeL (i := 5) (v := ?_) rfl (by kernel_rfl) (by kernel_rfl) (by kernel_rfl) (fun _ _ _ h => h) (Or.inl ⟨by rfl, ?_⟩) hHeld ?_
              rotate_left
              · (intro w hSw; (try dsimp only at hSw); go_simp; try with_reducible rfl)
              try go_frame
              refine wpAnyH_takeL (i := 6) (v := ?_) rfl (by kernel_rfl) (by kernel_rfl) (by kernel_rfl) (fun _ _ _ h => h) (Or.inl ⟨by rfl, ?_⟩) hHeld ?_
              rotate_left
              · (intro w hSw; (try dsimp only at hSw); go_simp; try with_reducible rfl)
              try go_frame
              refine wpAnyH_takeL (i := 7) (v := ?_) rfl (by kernel_rfl) (by kernel_rfl) (by kernel_rfl) (fun _ _ _ h => h) (Or.inl ⟨by rfl, ?_⟩) hHeld ?_
              rotate_left
              · (intro w hSw; (try dsimp only at hSw); go_simp; try with_reducible rfl)
              try go_frame
              refine wpAnyH_takeL (i := 8) (v := ?_) rfl (by kernel_rfl) (by kernel_rfl) (by kernel_rfl) (fun _ _ _ h => h) (Or.inl ⟨by rfl, ?_⟩) hHeld ?_
              rotate_left
              · (intro w hSw; (try dsimp only at hSw); go_simp; try with_reducible rfl)
              try go_frame
              refine wpAnyH_takeL (i := 9) (v := ?_) rfl (by kernel_rfl) (by kernel_rfl) (by kernel_rfl) (fun _ _ _ h => h) (Or.inl ⟨by rfl, ?_⟩) hHeld ?_
              rotate_left
              · (intro w hSw; (try dsimp only at hSw); go_simp; try with_reducible rfl)
              try go_frame
              refine wpAnyH_takeL (i := 10) (v := ?_) rfl (by kernel_rfl) (by kernel_rfl) (by kernel_rfl) (fun _ _ _ h => h) (Or.inl ⟨by rfl, ?_⟩) hHeld ?_
              rotate_left
              · (intro w hSw; (try dsimp only at hSw); go_simp; try with_reducible rfl)
              try go_frame
              refine wpAnyH_takeL (i := 11) (v := ?_) rfl (by kernel_rfl) (by kernel_rfl) (by kernel_rfl) (fun _ _ _ h => h) (Or.inl ⟨by rfl, ?_⟩) hHeld ?_
              rotate_left
              · (intro w hSw; (try dsimp only at hSw); go_simp; try with_reducible rfl)
              try go_frame
              refine wpAnyH_takeL (i := 12) (v := ?_) rfl (by kernel_rfl) (by kernel_rfl) (by kernel_rfl) (fun _ _ _ h => h) (Or.inl ⟨by rfl, ?_⟩) hHeld ?_
              rotate_left
              · (intro w hSw; (try dsimp only at hSw); go_simp; try with_reducible rfl)
              try go_frame
              refine wpAnyH_takeL (i := 13) (v := ?_) rfl (by kernel_rfl) (by kernel_rfl) (by kernel_rfl) (fun _ _ _ h => h) (Or.inl ⟨by rfl, ?_⟩) hHeld ?_
              rotate_left
              · (intro w hSw; (try dsimp only at hSw); go_simp; try with_reducible rfl)
              try go_frame
              refine wpAnyH_takeL (i := 14) (v := ?_) rfl (by kernel_rfl) (by kernel_rfl) (by kernel_rfl) (fun _ _ _ h => h) (Or.inl ⟨by rfl, ?_⟩) hHeld ?_
              rotate_left
              · (intro w hSw; (try dsimp only at hSw); go_simp; try with_reducible rfl)
              try go_frame
              refine wpAnyH_takeL (i := 15) (v := ?_) rfl (by kernel_rfl) (by kernel_rfl) (by kernel_rfl) (fun _ _ _ h => h) (Or.inl ⟨by rfl, ?_⟩) hHeld ?_
              rotate_left
              · (intro w hSw; (try dsimp only at hSw); go_simp; try with_reducible rfl)
              try go_frame
              refine wpAnyH_takeL (i := 16) (v := ?_) rfl (by kernel_rfl) (by kernel_rfl) (by kernel_rfl) (fun _ _ _ h => h) (Or.inl ⟨by rfl, ?_⟩) hHeld ?_
              rotate_left
              · (intro w hSw; (try dsimp only at hSw); go_simp; try with_reducible rfl)
              try go_frame
              refine wpAnyH_ready (rs := [17]) (by kernel_rfl) (by simp) ?_
              refine consL rfl (fun K hK => ?_) AllReadyH.nil
              go_simp
              refine (CL.out _).mono ?_
              rintro e wk1 ⟨rfl, bk1⟩
              have k1 : Below wr.heap.size wr wk1 := k0.trans (bk1.mono k0.size)
              go_wp2_with fail
              refine hK.out _ _ (HMK.out _ k1) (fun hHeld => ?_)
              clear hK K
              try go_frame
              refine wpAnyH_takeL (i := 18) (v := ?_) rfl (by kernel_rfl) (by kernel_rfl) (by kernel_rfl) (fun _ _ _ h => h) (Or.inl ⟨by rfl, ?_⟩) hHeld ?_
              rotate_left
              · (intro w hSw; (try dsimp only at hSw); go_simp; try with_reducible rfl)
              try go_frame
              refine wpAnyH_takeL (i := 19) (v := ?_) rfl (by kernel_rfl) (by kernel_rfl) (by kernel_rfl) (fun _ _ _ h => h) (Or.inl ⟨by rfl, ?_⟩) hHeld ?_
              rotate_left
              · (intro w hSw; (try dsimp only at hSw); go_simp; try with_reducible rfl)
              try go_frame
              refine wpAnyH_takeL (i := 20) (v := ?_) rfl (by kernel_rfl) (by kernel_rfl) (by kernel_rfl) (fun _ _ _ h => h) (Or.inl ⟨by rfl, ?_⟩) hHeld ?_
              rotate_left
              · (intro w hSw; (try dsimp only at hSw); go_simp; try with_reducible rfl)
              try go_frame
              refine wpAnyH_done (by kernel_rfl) ?_ _
              have KZ : Hid (Below W3.heap.size W3 wk1) := HBK.out.trans (k1.mono HBK.out.size)
              clear k0 k1 bk1 HMK hHeld v0 zv g0 g1 g2 g3 g4 e0 e1 e2 e3 e4
              go_wp2
              go_roundw
              case rel => exact ⟨i + 1, by omega, by go_num, KZ.out⟩
              case measure => simp [intOf]; omega
      · have hinI : ¬ (i : Int) < (nR : Int) := by omega
        have v0 := cell_later hb x0
        have v1 := cell_later hb x1
        have zv := World.block_lt_of_cell? _ _ v0
        simp only at zv
        obtain ⟨q1, q2, q3⟩ := P7.out
        have CA : Hid (∀ w', Below W3.heap.size W3 w' → Calls Try.prog 10 #[.slice (some ⟨gr, 0, none⟩) nR cR] w' (OfR F M true w')) := by
          intro w' k
          have h0 := implRunOf gr nR cR F w' (ER.out.keep k)
          rw [q1, q2, q3] at h0
          exact h0
        clear q1 q2 q3 hb
        go_wp2_with fail
        refine (CA.out _ HBI.out).mono ?_
        rintro e u1 ⟨aA, nA, cA, rfl, hOA, hu1⟩
        obtain ⟨Z, hZ⟩ : ∃ Z, Z = u1.heap.size := ⟨_, rfl⟩
        obtain ⟨U, hU⟩ : ∃ U, U = u1.alloc (.cells #[.slice aA nA cA, .int .i64 M] 26) := ⟨_, rfl⟩
        have kU : Below u1.heap.size u1 U := by rw [hU]; exact (Below.refl _ _).alloc (Nat.le_refl _) _
        have z0 : U.cell? ⟨Z, 0, none⟩ = some (.slice aA nA cA) := by rw [hU, hZ]; simp
        have z1 : U.cell? ⟨Z, 1, none⟩ = some (.int .i64 M) := by rw [hU, hZ]; simp
        have EA : Hid (EntsAt U aA nA cA F) := hOA.entsAt.keep kU
        have KU : Hid (Below W3.heap.size W3 U) := (HBI.out.trans (hu1.mono HBI.out.size)).trans (kU.mono (Nat.le_trans HBI.out.size hu1.size))
        have v0 := cell_later hu1 v0
        have v1 := cell_later hu1 v1
        have zv := World.block_lt_of_cell? _ _ v0
        simp only at zv
        have m0 := cell_later kU v0
        have m1 := cell_later kU v1
        have hsame : runSameB M F M F = true := by simp [runSameB]
        have CSA : Hid (∀ w', Below U.heap.size U w' → Calls Try.prog 12 #[.agg #[.slice aA nA cA, .int .i64 M], .agg #[.slice (some ⟨gr, 0, none⟩) nR cR, .int .i64 M]] w' fun e w'' => e = .returned (.bool true) ∧ Below w'.heap.size w' w'') := by rw [← hsame]; exact fun w' k => implRunSame _ _ _ _ _ _ _ _ F F w' (EA.out.keep k) ((ER.out.keep KU.out).keep k)
        have CO : Hid (∀ w', Below U.heap.size U w' → Calls Try.prog 14 #[.agg #[.slice (some ⟨gr, 0, none⟩) nR cR, .int .i64 M]] w' fun e w'' => e = .returned (.bool true) ∧ Below w'.heap.size w' w'') := by rw [← P6.out]; exact fun w' k => implRunOk _ _ _ F M w' ((ER.out.keep KU.out).keep k)
        clear hOA hu1 kU hsame CA
        go_wp2_with fail
        rw [← hU, ← hZ]
        clear hU hZ v0 v1 zv
        refine (CSA.out _ (Below.refl _ _)).mono ?_
        rintro e u2 ⟨rfl, hu2⟩
        have U2 : Hid (Below U.heap.size U u2) := hu2
        have m0 := cell_later hu2 m0
        have m1 := cell_later hu2 m1
        have zm := World.block_lt_of_cell? _ _ m0
        simp only at zm
        clear hu2 z0 z1
        go_wp2_with fail
        refine (CO.out _ U2.out).mono ?_
        rintro e u3 ⟨rfl, hu3⟩
        have U3 : Hid (Below U.heap.size U u3) := U2.out.trans (hu3.mono U2.out.size)
        have m0 := cell_later hu3 m0
        have zm := World.block_lt_of_cell? _ _ m0
        simp only at zm
        clear hu3 U2
        go_wp2
        go_ret
        exact ⟨rfl, KW.out.trans ((KU.out.trans (U3.out.mono KU.out.size)).mono KW.out.size)⟩
end Go.Proofs.Ytkhnknpacdmikaa
