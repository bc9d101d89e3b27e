/-
  What the document's and the program's TreeSame answer at every two trees, by walks of their Go text.
-/
import Derived.Test.YtkeodfajgpbgaaaTSame
import Derived.Deep.QuietTactic
namespace Go.Proofs.Ytkeodfajgpbgaaa
open Go.RowKit

set_option maxHeartbeats 3200000 in
theorem specLevels (lo1 lo2 : Nat) (a1 a2 : Option Addr) (n1 c1 n2 c2 : Nat) (B1 B2 : List (List RunD)) (w : World) (h1 : LevelsIn lo1 w a1 n1 c1 B1) (h2 : LevelsIn lo2 w a2 n2 c2 B2) :
    Calls Try.prog 88 #[.slice a1 n1 c1, .slice a2 n2 c2] w fun e w' => e = .returned (.bool (decide (B1 = B2))) ∧ Below w.heap.size w w' := by
  have HN1 : Hid (B1.length = n1) := h1.length
  have HN2 : Hid (B2.length = n2) := h2.length
  have hr1 := h1.room
  have hb1 := h1.big
  have hr2 := h2.room
  have hb2 := h2.big
  unfold maxLen at hb1 hb2
  have H1 : Hid (LevelsIn lo1 w a1 n1 c1 B1) := h1
  have H2 : Hid (LevelsIn lo2 w a2 n2 c2 B2) := h2
  clear h1 h2
  by_cases hn : n1 = n2
  · subst hn
    go_enter Try.func88, Try.ntmps88
    go_wp2
    go_loopw [5] (fun i wr => ∃ k : Nat, k ≤ n1 ∧ i = .int .i64 k ∧ Below w.heap.size w wr ∧ B1.take k = B2.take k) (fun i _ => n1 - (intOf i).toNat)
    case atStart => exact ⟨0, Nat.zero_le _, rfl, Below.refl _ _, rfl⟩
    case round =>
      obtain ⟨k, hk, rfl, hb, heq⟩ := hrel
      have HEQ : Hid (B1.take k = B2.take k) := heq
      clear heq
      by_cases hlt : k < n1
      · obtain ⟨x1, o1, rfl, hx1⟩ := H1.out.form (by omega)
        obtain ⟨x2, o2, rfl, hx2⟩ := H2.out.form (by omega)
        obtain ⟨B, s, n, c, hg, g0, hL⟩ := H1.out.level hb k hlt
        obtain ⟨B', s', n', c', hg', q0, hL'⟩ := H2.out.level hb k hlt
        have HG : Hid (B1[k]? = some B) := hg
        have HG' : Hid (B2[k]? = some B') := hg'
        have hltI : (k : Int) < (n1 : Int) := by omega
        have y1 : x1 < wr.heap.size := Nat.lt_of_lt_of_le hx1 hb.size
        have y2 : x2 < wr.heap.size := Nat.lt_of_lt_of_le hx2 hb.size
        have rn := hL.room
        have rb := hL.big
        have rn' := hL'.room
        have rb' := hL'.big
        unfold maxLen at rb rb'
        have HLN : Hid (B.length = n) := hL.length
        have HLN' : Hid (B'.length = n') := hL'.length
        have HL : Hid (RunsIn lo1 wr s n c B) := hL
        have HL' : Hid (RunsIn lo2 wr s' n' c' B') := hL'
        clear hg hg' hL hL'
        by_cases hnn : n = n'
        · subst hnn
          go_wp2_with fail
          go_quiet (fail)
          go_wp2
          go_loopw [6] (fun i wq => ∃ j : Nat, j ≤ n ∧ i = .int .i64 j ∧ Below wr.heap.size wr wq ∧ B.take j = B'.take j) (fun i _ => n - (intOf i).toNat)
          case atStart => exact ⟨0, Nat.zero_le _, rfl, below_drewN (Below.refl _ _) _, rfl⟩
          case round =>
            obtain ⟨j, hj, rfl, hbq, heqj⟩ := hrel
            have HEQJ : Hid (B.take j = B'.take j) := heqj
            clear heqj
            have g0 := cell_later hbq g0
            have q0 := cell_later hbq q0
            have y1 : x1 < wr.heap.size := Nat.lt_of_lt_of_le y1 hbq.size
            have y2 : x2 < wr.heap.size := Nat.lt_of_lt_of_le y2 hbq.size
            by_cases hjt : j < n
            · obtain ⟨u1, p1, rfl, hu1⟩ := HL.out.form (by omega)
              obtain ⟨u2, p2, rfl, hu2⟩ := HL'.out.form (by omega)
              obtain ⟨L, m, t, e, d, hG, _, r0, r1, hE⟩ := HL.out.run hbq j hjt
              obtain ⟨L', m', t', e', d', hG', _, r0', r1', hE'⟩ := HL'.out.run hbq j hjt
              have HGG : Hid (B[j]? = some (L, m)) := hG
              have HGG' : Hid (B'[j]? = some (L', m')) := hG'
              have hjtI : (j : Int) < (n : Int) := by omega
              have z1 : u1 < wr.heap.size := Nat.lt_of_lt_of_le hu1 hbq.size
              have z2 : u2 < wr.heap.size := Nat.lt_of_lt_of_le hu2 hbq.size
              have lk := hE.1.keep ((Below.refl _ wr).drew)
              have lk' := hE'.1.keep ((Below.refl _ wr).drew)
              clear hG hG' hE hE'
              obtain ⟨q, hq⟩ : ∃ q, decide (((L, m) : RunD) = (L', m')) = q := ⟨_, rfl⟩
              have HQ : Hid (decide (((L, m) : RunD) = (L', m')) = q) := hq
              clear hq
              cases q with
              | true =>
                go_wp2_with fail
                go_region_with (go_at_call 154; refine (specRunSame _ _ _ _ _ _ _ _ L L' _ lk lk').mono ?_; rw [runSame_iff, HQ.out]; rintro e w1 ⟨rfl, hb1⟩)
                all_goals
                  go_wp2
                  go_roundw
                  case rel => exact ⟨j + 1, by omega, by go_num, hbq.drew.trans (hb1.mono hbq.size), take_snoc_eq HGG.out HGG'.out (of_decide_eq_true HQ.out) HEQJ.out⟩
                  case measure => simp [intOf]; omega
              | false =>
                go_wp2_with fail
                go_region_with (go_at_call 154; refine (specRunSame _ _ _ _ _ _ _ _ L L' _ lk lk').mono ?_; rw [runSame_iff, HQ.out]; rintro e w1 ⟨rfl, hb1⟩)
                all_goals
                  go_wp2
                  go_ret
                  exact ⟨ret_bool (decide_eq_false (ne_of_at HG.out HG'.out (ne_of_at HGG.out HGG'.out (of_decide_eq_false HQ.out)))).symm, hb.trans ((hbq.drew.trans (hb1.mono hbq.size)).mono hb.size)⟩
            · have hjtI : ¬ (j : Int) < (n : Int) := by omega
              have HBB : Hid (B = B') := by
                have := HEQJ.out
                rw [List.take_of_length_le (by rw [HLN.out]; omega), List.take_of_length_le (by rw [HLN'.out]; omega)] at this
                exact this
              go_wp2
              go_roundw
              case rel => exact ⟨k + 1, by omega, by go_num, hb.trans (hbq.mono hb.size), take_snoc_eq HG.out HG'.out HBB.out HEQ.out⟩
              case measure => simp [intOf]; omega
        · have HBB : Hid (¬ B = B') := fun e => hnn (by rw [← HLN.out, ← HLN'.out, e])
          go_wp2_with fail
          go_quiet (fail)
          go_wp2
          go_ret
          exact ⟨ret_bool (decide_eq_false (ne_of_at HG.out HG'.out HBB.out)).symm, below_drewN hb _⟩
      · go_wp2
        go_ret
        refine ⟨ret_bool (decide_eq_true ?_).symm, hb⟩
        have := HEQ.out
        rw [List.take_of_length_le (by rw [HN1.out]; omega), List.take_of_length_le (by rw [HN2.out]; omega)] at this
        exact this
  · go_enter Try.func88, Try.ntmps88
    go_wp2
    go_ret
    refine ⟨ret_bool (decide_eq_false ?_).symm, Below.refl _ _⟩
    intro e
    rw [e, HN2.out] at HN1
    exact hn HN1.out.symm

/-- Two trees are one. -/
def treeSameB (q : Int) (M : List EntD) (V : List (List RunD)) (S : List Int) (q' : Int) (M' : List EntD) (V' : List (List RunD)) (S' : List Int) : Bool := decide (q = q') && (decide (M = M') && (decide (V = V') && decide (S = S')))

set_option maxHeartbeats 1600000 in
theorem specTreeSame (q q' : Int) (lo1 lo2 : Nat) (am av ak : Option Addr) (nm cm nv cv ns cs : Nat) (am' av' ak' : Option Addr) (nm' cm' nv' cv' ns' cs' : Nat) (M : List EntD) (V : List (List RunD)) (S : List Int) (M' : List EntD) (V' : List (List RunD)) (S' : List Int) (w : World) (h1 : TreeIn lo1 w am nm cm av nv cv ak ns cs M V S) (h2 : TreeIn lo2 w am' nm' cm' av' nv' cv' ak' ns' cs' M' V' S') :
    Calls Try.prog 87 #[.agg #[.int .i64 q, .slice am nm cm, .slice av nv cv, .slice ak ns cs], .agg #[.int .i64 q', .slice am' nm' cm', .slice av' nv' cv', .slice ak' ns' cs']] w fun e w' => e = .returned (.bool (treeSameB q M V S q' M' V' S')) ∧ Below w.heap.size w w' := by
  obtain ⟨W, hW⟩ : ∃ W, W = (w.alloc (.cells #[.int .i64 q, .slice am nm cm, .slice av nv cv, .slice ak ns cs] 32)).alloc (.cells #[.int .i64 q', .slice am' nm' cm', .slice av' nv' cv', .slice ak' ns' cs'] 32) := ⟨_, rfl⟩
  have hB : Below w.heap.size w W := by rw [hW]; exact ((Below.refl _ _).alloc (Nat.le_refl _) _).alloc (by simp) _
  have x2 : W.cell? ⟨w.heap.size, 2, none⟩ = some (.slice av nv cv) := by rw [hW]; simp
  have x3 : W.cell? ⟨w.heap.size, 3, none⟩ = some (.slice ak ns cs) := by rw [hW]; simp
  have y2 : W.cell? ⟨w.heap.size + 1, 2, none⟩ = some (.slice av' nv' cv') := by rw [hW]; simp
  have y3 : W.cell? ⟨w.heap.size + 1, 3, none⟩ = some (.slice ak' ns' cs') := by rw [hW]; simp
  have H1 : Hid (TreeIn lo1 W am nm cm av nv cv ak ns cs M V S) := h1.keep hB
  have H2 : Hid (TreeIn lo2 W am' nm' cm' av' nv' cv' ak' ns' cs' M' V' S') := h2.keep hB
  have HB : Hid (Below w.heap.size w W) := hB
  clear h1 h2 hB
  obtain ⟨bM, hM⟩ : ∃ b, decide (M = M') = b := ⟨_, rfl⟩
  obtain ⟨bV, hV⟩ : ∃ b, decide (V = V') = b := ⟨_, rfl⟩
  obtain ⟨bS, hS⟩ : ∃ b, decide (S = S') = b := ⟨_, rfl⟩
  have CM : Hid (∀ w', Below W.heap.size W w' → Calls Try.prog 152 #[.slice am nm cm, .slice am' nm' cm'] w' fun e w'' => e = .returned (.bool bM) ∧ Below w'.heap.size w' w'') := by rw [← hM]; exact fun w' k => specEq _ _ _ _ _ _ M M' w' (H1.out.keep k).mem.1 (H2.out.keep k).mem.1
  have CV : Hid (∀ w', Below W.heap.size W w' → Calls Try.prog 88 #[.slice av nv cv, .slice av' nv' cv'] w' fun e w'' => e = .returned (.bool bV) ∧ Below w'.heap.size w' w'') := by rw [← hV]; exact fun w' k => specLevels lo1 lo2 _ _ _ _ _ _ V V' w' (H1.out.keep k).levels (H2.out.keep k).levels
  have CS : Hid (∀ w', Below W.heap.size W w' → Calls Try.prog 153 #[.slice ak ns cs, .slice ak' ns' cs'] w' fun e w'' => e = .returned (.bool bS) ∧ Below w'.heap.size w' w'') := by rw [← hS]; exact fun w' k => specInts lo1 lo2 _ _ _ _ _ _ S S' w' (H1.out.keep k).snaps (H2.out.keep k).snaps
  have HR : Hid (treeSameB q M V S q' M' V' S' = (decide (q = q') && (bM && (bV && bS)))) := by rw [← hM, ← hV, ← hS]; rfl
  rw [HR.out]
  clear hM hV hS H1 H2 HR
  by_cases hq : q = q'
  · subst hq
    go_enter Try.func87, Try.ntmps87
    go_wp2_with fail
    rw [← hW]
    clear hW
    refine (CM.out _ (Below.refl _ _)).mono ?_
    rintro e w1 ⟨rfl, hb1⟩
    have x2 := cell_later hb1 x2
    have x3 := cell_later hb1 x3
    have y2 := cell_later hb1 y2
    have y3 := cell_later hb1 y3
    have z1 := World.block_lt_of_cell? _ _ x2
    have z2 := World.block_lt_of_cell? _ _ y2
    simp only at z1 z2
    have K1 : Hid (Below W.heap.size W w1) := hb1
    clear hb1
    cases bM with
    | false =>
      go_wp2
      go_ret
      exact ⟨ret_bool (by simp), HB.out.trans (K1.out.mono HB.out.size)⟩
    | true =>
      go_wp2_with fail
      refine (CV.out _ K1.out).mono ?_
      rintro e w2 ⟨rfl, hb2⟩
      have x3 := cell_later hb2 x3
      have y3 := cell_later hb2 y3
      have z1 := World.block_lt_of_cell? _ _ x3
      have z2 := World.block_lt_of_cell? _ _ y3
      simp only at z1 z2
      have K2 : Hid (Below W.heap.size W w2) := K1.out.trans (hb2.mono K1.out.size)
      clear hb2 K1
      cases bV with
      | false =>
        go_wp2
        go_ret
        exact ⟨ret_bool (by simp), HB.out.trans (K2.out.mono HB.out.size)⟩
      | true =>
        go_wp2_with fail
        refine (CS.out _ K2.out).mono ?_
        rintro e w3 ⟨rfl, hb3⟩
        have K3 : Hid (Below W.heap.size W w3) := K2.out.trans (hb3.mono K2.out.size)
        clear hb3 K2
        go_wp2
        go_ret
        exact ⟨ret_bool (by simp), HB.out.trans (K3.out.mono HB.out.size)⟩
  · have hd : (q == q') = false := by simpa using hq
    have HQ : Hid (¬ q = q') := hq
    clear hq CM CV CS x2 x3 y2 y3
    go_enter Try.func87, Try.ntmps87
    go_wp2
    go_ret
    rw [← hW]
    exact ⟨ret_bool (by simp [HQ.out]), HB.out⟩

set_option maxHeartbeats 1600000 in
theorem implTreeSame (q q' : Int) (lo1 lo2 : Nat) (am av ak : Option Addr) (nm cm nv cv ns cs : Nat) (am' av' ak' : Option Addr) (nm' cm' nv' cv' ns' cs' : Nat) (M : List EntD) (V : List (List RunD)) (S : List Int) (M' : List EntD) (V' : List (List RunD)) (S' : List Int) (w : World) (h1 : TreeIn lo1 w am nm cm av nv cv ak ns cs M V S) (h2 : TreeIn lo2 w am' nm' cm' av' nv' cv' ak' ns' cs' M' V' S') :
    Calls Try.prog 90 #[.agg #[.int .i64 q, .slice am nm cm, .slice av nv cv, .slice ak ns cs], .agg #[.int .i64 q', .slice am' nm' cm', .slice av' nv' cv', .slice ak' ns' cs']] w fun e w' => e = .returned (.bool (treeSameB q M V S q' M' V' S')) ∧ Below w.heap.size w w' := by
  obtain ⟨W, hW⟩ : ∃ W, W = (w.alloc (.cells #[.int .i64 q, .slice am nm cm, .slice av nv cv, .slice ak ns cs] 32)).alloc (.cells #[.int .i64 q', .slice am' nm' cm', .slice av' nv' cv', .slice ak' ns' cs'] 32) := ⟨_, rfl⟩
  have hB : Below w.heap.size w W := by rw [hW]; exact ((Below.refl _ _).alloc (Nat.le_refl _) _).alloc (by simp) _
  have x2 : W.cell? ⟨w.heap.size, 2, none⟩ = some (.slice av nv cv) := by rw [hW]; simp
  have x3 : W.cell? ⟨w.heap.size, 3, none⟩ = some (.slice ak ns cs) := by rw [hW]; simp
  have y2 : W.cell? ⟨w.heap.size + 1, 2, none⟩ = some (.slice av' nv' cv') := by rw [hW]; simp
  have y3 : W.cell? ⟨w.heap.size + 1, 3, none⟩ = some (.slice ak' ns' cs') := by rw [hW]; simp
  have H1 : Hid (TreeIn lo1 W am nm cm av nv cv ak ns cs M V S) := h1.keep hB
  have H2 : Hid (TreeIn lo2 W am' nm' cm' av' nv' cv' ak' ns' cs' M' V' S') := h2.keep hB
  have HB : Hid (Below w.heap.size w W) := hB
  clear h1 h2 hB
  obtain ⟨bM, hM⟩ : ∃ b, decide (M = M') = b := ⟨_, rfl⟩
  obtain ⟨bV, hV⟩ : ∃ b, decide (V = V') = b := ⟨_, rfl⟩
  obtain ⟨bS, hS⟩ : ∃ b, decide (S = S') = b := ⟨_, rfl⟩
  have CM : Hid (∀ w', Below W.heap.size W w' → Calls Try.prog 155 #[.slice am nm cm, .slice am' nm' cm'] w' fun e w'' => e = .returned (.bool bM) ∧ Below w'.heap.size w' w'') := by rw [← hM]; exact fun w' k => entsEqual _ _ _ _ _ _ M M' w' (H1.out.keep k).mem.1 (H2.out.keep k).mem.1
  have CV : Hid (∀ w', Below W.heap.size W w' → Calls Try.prog 91 #[.slice av nv cv, .slice av' nv' cv', .func (.func 92) #[] #[]] w' fun e w'' => e = .returned (.bool bV) ∧ Below w'.heap.size w' w'') := by rw [← hV]; exact fun w' k => levelsEqual lo1 lo2 _ _ _ _ _ _ V V' w' (H1.out.keep k).levels (H2.out.keep k).levels
  have CS : Hid (∀ w', Below W.heap.size W w' → Calls Try.prog 156 #[.slice ak ns cs, .slice ak' ns' cs'] w' fun e w'' => e = .returned (.bool bS) ∧ Below w'.heap.size w' w'') := by rw [← hS]; exact fun w' k => intsEqual lo1 lo2 _ _ _ _ _ _ S S' w' (H1.out.keep k).snaps (H2.out.keep k).snaps
  have HR : Hid (treeSameB q M V S q' M' V' S' = (decide (q = q') && (bM && (bV && bS)))) := by rw [← hM, ← hV, ← hS]; rfl
  rw [HR.out]
  clear hM hV hS H1 H2 HR
  by_cases hq : q = q'
  · subst hq
    go_enter Try.func90, Try.ntmps90
    go_wp2_with fail
    rw [← hW]
    clear hW
    refine (CM.out _ (Below.refl _ _)).mono ?_
    rintro e w1 ⟨rfl, hb1⟩
    have x2 := cell_later hb1 x2
    have x3 := cell_later hb1 x3
    have y2 := cell_later hb1 y2
    have y3 := cell_later hb1 y3
    have z1 := World.block_lt_of_cell? _ _ x2
    have z2 := World.block_lt_of_cell? _ _ y2
    simp only at z1 z2
    have K1 : Hid (Below W.heap.size W w1) := hb1
    clear hb1
    cases bM with
    | false =>
      go_wp2
      go_ret
      exact ⟨ret_bool (by simp), HB.out.trans (K1.out.mono HB.out.size)⟩
    | true =>
      go_wp2_with fail
      refine (CV.out _ K1.out).mono ?_
      rintro e w2 ⟨rfl, hb2⟩
      have x3 := cell_later hb2 x3
      have y3 := cell_later hb2 y3
      have z1 := World.block_lt_of_cell? _ _ x3
      have z2 := World.block_lt_of_cell? _ _ y3
      simp only at z1 z2
      have K2 : Hid (Below W.heap.size W w2) := K1.out.trans (hb2.mono K1.out.size)
      clear hb2 K1
      cases bV with
      | false =>
        go_wp2
        go_ret
        exact ⟨ret_bool (by simp), HB.out.trans (K2.out.mono HB.out.size)⟩
      | true =>
        go_wp2_with fail
        refine (CS.out _ K2.out).mono ?_
        rintro e w3 ⟨rfl, hb3⟩
        have K3 : Hid (Below W.heap.size W w3) := K2.out.trans (hb3.mono K2.out.size)
        clear hb3 K2
        go_wp2
        go_ret
        exact ⟨ret_bool (by simp), HB.out.trans (K3.out.mono HB.out.size)⟩
  · have hd : (q == q') = false := by simpa using hq
    have HQ : Hid (¬ q = q') := hq
    clear hq CM CV CS x2 x3 y2 y3
    go_enter Try.func90, Try.ntmps90
    go_wp2
    go_ret
    rw [← hW]
    exact ⟨ret_bool (by simp [HQ.out]), HB.out⟩

end Go.Proofs.Ytkeodfajgpbgaaa