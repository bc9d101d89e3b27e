/-
  The walk of the law FnExactBookPost: it answers true at every list of postings and every posting.
-/
import Derived.Test.YtfblpbihpmhgjaaDoorBp43
import Derived.Test.YtfblpbihpmhgjaaDoorBp47
import Derived.Test.YtfblpbihpmhgjaaDoorBp48
namespace Go.Proofs.YtfblpbihpmhgjaaDoor
open Go.RowKit

theorem LegOwn.below {lo hi b : Nat} {w w' : World} {j : Nat} (h : LegOwn lo hi b w j) (hb : Below w.heap.size w w') : LegOwn lo hi b w' j := by
  obtain ⟨g, m, c, h0, h1⟩ := h
  exact ⟨g, m, c, cell_later hb h0, h1.1, h1.2.1, h1.2.2.1, h1.2.2.2.1.below hb, h1.2.2.2.2⟩
theorem marksTo_posts {w : World} {b n c : Nat} {B : List PostD} (h : PostsAt w (some ⟨b, 0, none⟩) n c B) : ∀ j, j ≤ n → (marksTo w b j : Int) = j + 3 * legSum (B.take j) := by
  intro j
  induction j with
  | zero => intro _; simp [marksTo, legSum]
  | succ j ih =>
    intro hj
    have hjB : j < B.length := by rw [h.length]; omega
    obtain ⟨_, s, m, c', _, h1, h2⟩ := h.posts _ rfl j hjB
    simp only [Nat.zero_add] at h1
    have e : marksTo w b (j + 1) = marksTo w b j + 1 + 3 * m := by show marksTo w b j + 1 + 3 * _ = _; rw [h1]
    have hl := h2.length
    rw [legSum_take (List.getElem?_eq_getElem hjB), e]
    have := ih (by omega)
    omega
set_option maxRecDepth 100000 in
set_option maxHeartbeats 2000000 in
/-- Marks on a posting's legs. -/
theorem markPost_k (id : Int) (b g m c k : Nat) (w : World) (hB : BlockOf w g 69 (c * 3)) (hmc : m ≤ c) (hcm : c ≤ maxLen) (hgb : g ≠ b) (hk : 1 ≤ k) (hn : k + 3 * m ≤ 1000000000) :
    Calls Tryd.prog 18 #[.agg #[.int .i64 id, .slice (some ⟨g, 0, none⟩) m c], .int .i64 k] w fun e w' => e = .returned (.int .i64 ((k + 3 * m : Nat) : Int)) ∧ MarkK g (g + 1) b w w' := by
  have ka : Below w.heap.size w (w.alloc (.cells #[.int .i64 id, .slice (some ⟨g, 0, none⟩) m c] 29)) := (Below.refl _ _).alloc (Nat.le_refl _) _
  have CM := markLegs_any g (g + 1) b g m c k _ (hB.below ka) hmc hcm (Nat.le_refl _) (Nat.lt_succ_self _) hgb hk hn
  have HM : Hid (MarkK g (g + 1) b w (w.alloc (.cells #[.int .i64 id, .slice (some ⟨g, 0, none⟩) m c] 29))) := MarkK.of_below ka
  clear hB ka
  go_enter Tryd.func18, Tryd.ntmps18
  go_wp2_with fail
  refine CM.mono ?_
  rintro e w1 ⟨rfl, hM1⟩
  have HM1 : Hid (MarkK g (g + 1) b w w1) := HM.out.trans hM1
  clear hM1
  go_wp2
  go_ret
  exact ⟨rfl, HM1.out⟩
theorem postO_mem {B : List PostD} {p q : PostD} (h : q ∈ (postO B p).1) : bookB B = true ∧ (q ∈ B ∨ (q = p ∧ codeP B p = 0)) := by
  cases hb : bookB B with
  | false => rw [postO_no p hb] at h; cases h
  | true =>
    by_cases hc : codeP B p = 0
    · rw [postO_yes hb hc] at h
      rcases List.mem_append.1 h with h | h
      · exact ⟨rfl, .inl h⟩
      · exact ⟨rfl, .inr ⟨List.mem_singleton.1 h, hc⟩⟩
    · rw [postO_code hb hc] at h
      exact ⟨rfl, .inl h⟩
theorem postO_good {B : List PostD} {p q : PostD} (h : q ∈ (postO B p).1) : postB q.1 q.2 = true := by
  obtain ⟨hb, h | ⟨rfl, hc⟩⟩ := postO_mem h
  · exact (book_small hb).2 q h
  · exact fair_post (code_fair hc)
theorem postO_len (B : List PostD) (p : PostD) : (postO B p).1.length ≤ 41 := by
  cases hb : bookB B with
  | false => rw [postO_no p hb]; simp
  | true =>
    have h40 := (book_small hb).1
    by_cases hc : codeP B p = 0
    · rw [postO_yes hb hc]; simp; omega
    · rw [postO_code hb hc]; show B.length ≤ 41; omega
theorem szB_13 : ∀ (B : List PostD), (∀ p ∈ B, postB p.1 p.2 = true) → szB B ≤ 13 * B.length
  | [], _ => by simp [szB]
  | p :: B, h => by
    have h1 := postB_len (h p List.mem_cons_self)
    have h2 := szB_13 B (fun q hq => h q (List.mem_cons_of_mem _ hq))
    simp only [szB, List.length_cons]
    omega
theorem postO_wf {w : World} {a : Option Addr} {n c : Nat} {B : List PostD} {id : Int} {s : Option Addr} {m cm : Nat} {L : List LegD} (hP : PostsAt w a n c B) (hL : LegsAt w s m cm L) : ∀ q ∈ (postO B (id, L)).1, (Lit.int .i64 q.1).wf = true ∧ ∀ l ∈ q.2, LegW l := by
  intro q hq
  have hid := postB_id (postO_good hq)
  refine ⟨WalkArith.wf_i64 (by omega), ?_⟩
  obtain ⟨_, h | ⟨rfl, _⟩⟩ := postO_mem hq
  · obtain ⟨j, hj, rfl⟩ := List.getElem_of_mem h
    obtain ⟨b, off, rfl, _⟩ := hP.form (by have := hP.length; omega)
    obtain ⟨_, _, _, _, _, _, h3⟩ := hP.posts _ rfl j hj
    exact h3.legs
  · exact hL.legs

set_option maxRecDepth 100000 in
set_option maxHeartbeats 8000000 in
theorem walkFnExactBookPost (a1 : Option Addr) (n1 c1 : Nat) (B1 : List PostD) (id : Int) (s : Option Addr) (m cm : Nat) (L : List LegD) (w : World) (h1 : PostsAt w a1 n1 c1 B1) (h2 : LegsAt w s m cm L) (hg : HasEt w) :
    Calls Tryd.prog 9 #[.slice a1 n1 c1, .agg #[.int .i64 id, .slice s m cm]] w fun e w' => e = .returned (.bool true) ∧ Below w.heap.size w w' := by
  have HET : Hid (HasEt w) := hg
  obtain ⟨Y, hY⟩ : ∃ Y, Y = w.heap.size := ⟨_, rfl⟩
  obtain ⟨W, hW⟩ : ∃ W, W = w.alloc (.cells #[.int .i64 id, .slice s m cm] 24) := ⟨_, rfl⟩
  have kW : Below w.heap.size w W := by rw [hW]; exact (Below.refl _ _).alloc (Nat.le_refl _) _
  have KW : Hid (Below w.heap.size w W) := kW
  have y0 : W.cell? ⟨Y, 0, none⟩ = some (.int .i64 id) := by rw [hW, hY]; simp
  have y1 : W.cell? ⟨Y, 1, none⟩ = some (.slice s m cm) := by rw [hW, hY]; simp
  have H1 : Hid (PostsAt W a1 n1 c1 B1) := h1.keep kW
  have H2 : Hid (LegsAt W s m cm L) := h2.keep kW
  have hYW : Y < W.heap.size := World.block_lt_of_cell? _ _ y0
  have HMK : Hid (∀ w', Below W.heap.size W w' → (fun w' => w'.cell? ⟨Y, 0, none⟩ = some (.int .i64 id) ∧ w'.cell? ⟨Y, 1, none⟩ = some (.slice s m cm) ∧ Y < w'.heap.size) w') := fun w' kk => ⟨cell_later kk y0, cell_later kk y1, Nat.lt_of_lt_of_le hYW kk.size⟩
  obtain ⟨R, hR⟩ : ∃ R, R = (postO B1 (id, L)).1 := ⟨_, rfl⟩
  obtain ⟨C, hC⟩ : ∃ C, C = (postO B1 (id, L)).2 := ⟨_, rfl⟩
  obtain ⟨N, hN⟩ : ∃ N, R.length = N := ⟨_, rfl⟩
  have HR : Hid (R = (postO B1 (id, L)).1) := hR
  have HC : Hid (C = (postO B1 (id, L)).2) := hC
  have HN : Hid (R.length = N) := hN
  have HWF : Hid (∀ q ∈ R, (Lit.int .i64 q.1).wf = true ∧ ∀ l ∈ q.2, LegW l) := by show ∀ q ∈ R, _; rw [hR]; exact postO_wf h1 h2
  have hN41 : N ≤ 41 := by rw [← hN, hR]; exact postO_len _ _
  have HZZ : Hid (szB R ≤ 533) := by
    have h3 := szB_13 R (fun q hq => by rw [hR] at hq; exact postO_good hq)
    rw [hN] at h3
    show szB R ≤ 533
    omega
  clear hR hC hN h1 h2 hg
  go_enter Tryd.func9, Tryd.ntmps9
  go_upto_region 2 with fail
  rw [← hW]
  simp only [← hY]
  clear hW hY kW
  go_wp2_with fail
  refine (szPostS_sum _ _ _ B1 _ _ H1.out (by omega) (by omega)).mono ?_
  rintro e w3 ⟨r, rfl, hr, hB3⟩
  rcases hr with rfl | ⟨hr0, hr1, hlen, hlegs, hsum⟩
  · go_wp2
    go_ret
    exact ⟨rfl, KW.out.trans (hB3.mono KW.out.size)⟩
  have hn1 : n1 ≤ 1048576 := by omega
  have HS1 : Hid (∀ p ∈ B1, p.2.length ≤ 1048576) := fun p hp => by have := hlegs p hp; omega
  have HSUM : Hid ((n1 : Int) + legSum B1 ≤ 1048576) := hsum
  have z0 := cell_later hB3 y0
  have z1 := cell_later hB3 y1
  have hY3 : Y < w3.heap.size := World.block_lt_of_cell? _ _ z0
  have CP : Hid (∀ w', Below W.heap.size W w' → Calls Tryd.prog 40 #[.slice a1 n1 c1] w' fun e w'' => e = .returned (.slice (some ⟨w'.heap.size, 0, none⟩) n1 n1) ∧ PostsAt w'' (some ⟨w'.heap.size, 0, none⟩) n1 n1 B1 ∧ w'.heap.size < w''.heap.size ∧ BlockOf w'' w'.heap.size 29 (n1 * 2) ∧ (∀ j, j < n1 → LegOwn w'.heap.size w''.heap.size w'.heap.size w'' j) ∧ Below w'.heap.size w' w'') := fun w' kk => toPostS_own _ _ _ B1 w' (H1.out.keep kk) hn1 HS1.out
  clear hlegs hlen hsum
  have hnr : ¬ r < 0 := by omega
  go_wp2_with fail
  refine (szPost_any id s m cm L r _ (H2.out.keep hB3) hr0 hr1).mono ?_
  rintro e w4 ⟨r2, rfl, hr2, hb4⟩
  have hB4 := hB3.trans (hb4.mono hB3.size)
  rcases hr2 with rfl | ⟨hr20, hr21, hr22⟩
  · go_wp2
    go_ret
    exact ⟨rfl, KW.out.trans (hB4.mono KW.out.size)⟩
  have hm1 : m ≤ 1048576 := by omega
  have CQ : Hid (∀ w', Below W.heap.size W w' → Calls Tryd.prog 13 #[.agg #[.int .i64 id, .slice s m cm]] w' fun e w'' => ∃ b, e = .returned (.agg #[.int .i64 id, .slice (some ⟨b, 0, none⟩) m m]) ∧ w'.heap.size ≤ b ∧ b < w''.heap.size ∧ LegsAt w'' (some ⟨b, 0, none⟩) m m L ∧ BlockOf w'' b 69 (m * 3) ∧ Below w'.heap.size w' w'') := fun w' kk => toPost_own id _ _ _ L w' (H2.out.keep kk) hm1
  have hnr2 : ¬ r2 < 0 := by omega
  have k0 : Below W.heap.size W w4.drew := hB4.drew
  clear hb4 hB3 z0 z1 hY3
  go_upto_region 8 with fail
  clear hB4 hnr hnr2 hr0 hr1 hr20 hr21 hr22
  refine wp_region_held_drew (S := (fun w' => w'.cell? ⟨Y, 0, none⟩ = some (.int .i64 id) ∧ w'.cell? ⟨Y, 1, none⟩ = some (.slice s m cm) ∧ Y < w'.heap.size)) (by kernel_rfl) (HMK.out _ k0) (fun hHeld => ?_)
  generalize w4.drew = wd at k0 hHeld ⊢
  refine wpAnyH_takeL (i := 0) (v := ?_) rfl (by kernel_rfl) (by kernel_rfl) (by kernel_rfl) (fun _ _ _ h => h) (Or.inl ⟨by rfl, ?_⟩) hHeld ?_
  rotate_left
  · (intro w hSw; (try dsimp only at hSw); go_simp; try with_reducible rfl)
  try go_frame
  refine wpAnyH_takeL (i := 2) (v := ?_) rfl (by kernel_rfl) (by kernel_rfl) (by kernel_rfl) (fun _ _ _ h => h) (Or.inl ⟨by rfl, ?_⟩) hHeld ?_
  rotate_left
  · (intro w hSw; (try dsimp only at hSw); go_simp; try with_reducible rfl)
  try go_frame
  refine wpAnyH_ready (rs := [1]) (by kernel_rfl) (by simp) ?_
  refine consL rfl (fun K hK => ?_) AllReadyH.nil
  go_simp
  refine (CP.out _ k0).mono ?_
  rintro e wA ⟨rfl, hPA, _, _, _, hbA⟩
  have kA := k0.trans (hbA.mono k0.size)
  obtain ⟨xA, hxA⟩ : ∃ x, x = wd.heap.size := ⟨_, rfl⟩
  rw [← hxA] at hPA ⊢
  clear hxA
  go_wp2_with fail
  refine hK.out _ _ (HMK.out _ kA) (fun hHeld => ?_)
  clear hK K
  try go_frame
  refine wpAnyH_ready (rs := [3]) (by kernel_rfl) (by simp) ?_
  refine consL rfl (fun K hK => ?_) AllReadyH.nil
  go_simp
  refine (CQ.out _ kA).mono ?_
  rintro e wB ⟨bB, rfl, _, _, hLB, _, hbB⟩
  have kB := kA.trans (hbB.mono kA.size)
  have hPB := hPA.keep hbB
  clear hPA hbB hbA
  go_wp2_with fail
  refine hK.out _ _ (HMK.out _ kB) (fun hHeld => ?_)
  clear hK K
  try go_frame
  refine wpAnyH_ready (rs := [4]) (by kernel_rfl) (by simp) ?_
  refine consL rfl (fun K hK => ?_) AllReadyH.nil
  go_simp
  refine (specBookPost _ _ _ B1 id _ _ _ L wB hPB hLB).mono ?_
  rintro e w5 ⟨⟨v0, G0, rfl, hZ0⟩, hb5⟩
  have k5 := kB.trans (hb5.mono kB.size)
  rw [← HC.out]
  rw [← HR.out] at hZ0
  obtain ⟨a0, c0, rfl⟩ := hZ0.form
  have HW0 : Hid (PostsAt w5 a0 R.length c0 R) := hZ0.postsAt rfl HWF.out
  rw [HN.out] at HW0 ⊢
  clear hPB hLB hZ0 hb5
  go_wp2_with fail
  refine hK.out _ _ (HMK.out _ k5) (fun hHeld => ?_)
  clear hK K
  try go_frame
  refine wpAnyH_takeL (i := 5) (v := ?_) rfl (by kernel_rfl) (by kernel_rfl) (by kernel_rfl) (fun _ _ _ h => h) (Or.inl ⟨by rfl, ?_⟩) hHeld ?_
  rotate_left
  · (intro w hSw; (try dsimp only at hSw); go_simp; try with_reducible rfl)
  try go_frame
  refine wpAnyH_takeL (i := 6) (v := ?_) rfl (by kernel_rfl) (by kernel_rfl) (by kernel_rfl) (fun _ _ _ h => h) (Or.inl ⟨by rfl, ?_⟩) hHeld ?_
  rotate_left
  · (intro w hSw; (try dsimp only at hSw); go_simp; try with_reducible rfl)
  try go_frame
  refine wpAnyH_takeL (i := 7) (v := ?_) rfl (by kernel_rfl) (by kernel_rfl) (by kernel_rfl) (fun _ _ _ h => h) (Or.inl ⟨by rfl, ?_⟩) hHeld ?_
  rotate_left
  · (intro w hSw; (try dsimp only at hSw); go_simp; try with_reducible rfl)
  try go_frame
  refine wpAnyH_takeL (i := 8) (v := ?_) rfl (by kernel_rfl) (by kernel_rfl) (by kernel_rfl) (fun _ _ _ h => h) (Or.inl ⟨by rfl, ?_⟩) hHeld ?_
  rotate_left
  · (intro w hSw; (try dsimp only at hSw); go_simp; try with_reducible rfl)
  try go_frame
  refine wpAnyH_takeL (i := 9) (v := ?_) rfl (by kernel_rfl) (by kernel_rfl) (by kernel_rfl) (fun _ _ _ h => h) (Or.inl ⟨by rfl, ?_⟩) hHeld ?_
  rotate_left
  · (intro w hSw; (try dsimp only at hSw); go_simp; try with_reducible rfl)
  try go_frame
  refine wpAnyH_done (by kernel_rfl) ?_ _
  have K5 : Hid (Below W.heap.size W w5) := k5
  clear hHeld k0 kA kB k5
  -- the arguments
  go_wp2_with fail
  refine (CP.out _ K5.out).mono ?_
  rintro e w6 ⟨rfl, hP6, hlt6, hbk6, hlo6, hb6⟩
  obtain ⟨x0, hx0⟩ : ∃ x, x = w5.heap.size := ⟨_, rfl⟩
  rw [← hx0] at hP6 hlt6 hbk6 hlo6 ⊢
  have HX0 : Hid (x0 = w5.heap.size) := hx0
  have HP6 : Hid (PostsAt w6 (some ⟨x0, 0, none⟩) n1 n1 B1) := hP6
  have HBK6 : Hid (BlockOf w6 x0 29 (n1 * 2)) := hbk6
  obtain ⟨z6, hz6⟩ : ∃ z, z = w6.heap.size := ⟨_, rfl⟩
  have HZ6 : Hid (z6 = w6.heap.size) := hz6
  have HLO6 : Hid (∀ j, j < n1 → LegOwn x0 z6 x0 w6 j) := by rw [hz6]; exact hlo6
  have HX6 : Hid (x0 < z6) := by show x0 < z6; rw [hz6]; exact hlt6
  have K6 : Hid (Below W.heap.size W w6) := K5.out.trans (hb6.mono K5.out.size)
  have J6 : Hid (Below w5.heap.size w5 w6) := hb6
  have q0 := cell_later K6.out y0
  have q1 := cell_later K6.out y1
  have hY6 : Y < w6.heap.size := World.block_lt_of_cell? _ _ q0
  clear hx0 hP6 hlt6 hbk6 hlo6 hb6 hz6
  go_wp2_with fail
  refine (CQ.out _ K6.out).mono ?_
  rintro e w7 ⟨b1, rfl, hb1l, hb1h, hL7, hbk7, hb7⟩
  obtain ⟨X1, hX1⟩ : ∃ X1, X1 = w7.heap.size := ⟨_, rfl⟩
  obtain ⟨w8, hw8⟩ : ∃ w8, w8 = w7.alloc (.cells #[.int .i64 id, .slice (some ⟨b1, 0, none⟩) m m] 29) := ⟨_, rfl⟩
  have ka : Below w7.heap.size w7 w8 := by rw [hw8]; exact (Below.refl _ _).alloc (Nat.le_refl _) _
  have e0 : w8.cell? ⟨X1, 0, none⟩ = some (.int .i64 id) := by rw [hw8, hX1]; simp
  have e1 : w8.cell? ⟨X1, 1, none⟩ = some (.slice (some ⟨b1, 0, none⟩) m m) := by rw [hw8, hX1]; simp
  have hX8 : X1 < w8.heap.size := World.block_lt_of_cell? _ _ e0
  have hb1x : b1 < X1 := by rw [hX1]; exact hb1h
  have HL8 : Hid (LegsAt w8 (some ⟨b1, 0, none⟩) m m L) := hL7.keep ka
  have HBL8 : Hid (BlockOf w8 b1 69 (m * 3)) := hbk7.below ka
  have hb1z : z6 ≤ b1 := by rw [HZ6.out]; exact hb1l
  have I8 : Hid (Below w6.heap.size w6 w8) := hb7.trans (ka.mono hb7.size)
  have K8 : Hid (Below W.heap.size W w8) := K6.out.trans (I8.out.mono K6.out.size)
  have J8 : Hid (Below w5.heap.size w5 w8) := J6.out.trans (I8.out.mono J6.out.size)
  have HP8 := HP6.out.keep I8.out
  go_upto_region 11 with fail
  rw [← hw8]
  simp only [← hX1]
  clear hw8 hX1 ka hL7 hbk7 hb7 hb1l hb1h q0 q1 hY6
  go_wp2_with fail
  refine (implBookPost _ _ _ B1 id _ _ _ L w8 HP8 HL8.out (HET.out.keep (KW.out.trans (K8.out.mono KW.out.size)))).mono ?_
  rintro e w9 ⟨⟨v9, G9, rfl, hZ9⟩, hb9⟩
  rw [← HC.out]
  rw [← HR.out] at hZ9
  obtain ⟨a9, c9, rfl⟩ := hZ9.form
  rw [HN.out] at hZ9 ⊢
  obtain ⟨z8, hz8⟩ : ∃ z, z = w8.heap.size := ⟨_, rfl⟩
  have HZ8 : Hid (z8 = w8.heap.size) := hz8
  have HG9 : Hid (PostsZ w9 z8 (.slice a9 N c9) G9 R) := by rw [hz8]; exact hZ9
  have hX1z : X1 < z8 := by rw [hz8]; exact hX8
  have I9 : Hid (Below w8.heap.size w8 w9) := hb9
  have K9 : Hid (Below W.heap.size W w9) := K8.out.trans (hb9.mono K8.out.size)
  have J9 : Hid (Below w5.heap.size w5 w9) := J8.out.trans (hb9.mono J8.out.size)
  clear hz8 hZ9 hb9 HP8
  have hCC : (C == C) = true := by simp
  go_wp2_with fail
  refine (eqPostS_same _ _ N _ _ R _ (HG9.out.postsAt HN.out HWF.out) (HW0.out.keep J9.out)).mono ?_
  rintro e w9b ⟨rfl, hb9b⟩
  have I9b : Hid (Below w8.heap.size w8 w9b) := I9.out.trans (hb9b.mono I9.out.size)
  have K9b : Hid (Below W.heap.size W w9b) := K9.out.trans (hb9b.mono K9.out.size)
  have J9b : Hid (Below w5.heap.size w5 w9b) := J9.out.trans (hb9b.mono J9.out.size)
  have HG9b : Hid (PostsZ w9b z8 (.slice a9 N c9) G9 R) := HG9.out.below hb9b
  clear hb9b I9 K9 J9 HG9
  go_wp2_with fail
  refine (CP.out _ K9b.out).mono ?_
  rintro e wx ⟨rfl, hPx, _, _, _, hbx⟩
  have Ix : Hid (Below w8.heap.size w8 wx) := I9b.out.trans (hbx.mono I9b.out.size)
  have Kx : Hid (Below W.heap.size W wx) := K9b.out.trans (hbx.mono K9b.out.size)
  have Jx : Hid (Below w5.heap.size w5 wx) := J9b.out.trans (hbx.mono J9b.out.size)
  have HGx : Hid (PostsZ wx z8 (.slice a9 N c9) G9 R) := HG9b.out.below hbx
  obtain ⟨xx, hxx⟩ : ∃ x, x = w9b.heap.size := ⟨_, rfl⟩
  rw [← hxx] at hPx ⊢
  have HPx : Hid (PostsAt wx (some ⟨xx, 0, none⟩) n1 n1 B1) := hPx
  clear hbx hxx hPx I9b K9b J9b HG9b
  go_wp2_with fail
  refine (eqPostS_same _ _ _ _ _ B1 _ ((HP6.out.keep I8.out).keep Ix.out) HPx.out).mono ?_
  rintro e w10 ⟨rfl, hb10⟩
  have I10 : Hid (Below w8.heap.size w8 w10) := Ix.out.trans (hb10.mono Ix.out.size)
  have K10 : Hid (Below W.heap.size W w10) := Kx.out.trans (hb10.mono Kx.out.size)
  have J10 : Hid (Below w5.heap.size w5 w10) := Jx.out.trans (hb10.mono Jx.out.size)
  have HG10 : Hid (PostsZ w10 z8 (.slice a9 N c9) G9 R) := HGx.out.below hb10
  have HL10 : Hid (LegsAt w10 (some ⟨b1, 0, none⟩) m m L) := HL8.out.keep I10.out
  have HMK16 : Hid (∀ w', Below w10.heap.size w10 w' → (fun w' => w'.cell? ⟨Y, 0, none⟩ = some (.int .i64 id) ∧ w'.cell? ⟨Y, 1, none⟩ = some (.slice s m cm) ∧ Y < w'.heap.size ∧ w'.cell? ⟨X1, 0, none⟩ = some (.int .i64 id) ∧ w'.cell? ⟨X1, 1, none⟩ = some (.slice (some ⟨b1, 0, none⟩) m m) ∧ X1 < w'.heap.size) w') := fun w' kk => by
    have h1 := K10.out.trans (kk.mono K10.out.size)
    have h2 := I10.out.trans (kk.mono I10.out.size)
    exact ⟨cell_later h1 y0, cell_later h1 y1, Nat.lt_of_lt_of_le hYW h1.size, cell_later h2 e0, cell_later h2 e1, Nat.lt_of_lt_of_le hX8 h2.size⟩
  have j0 : Below w10.heap.size w10 w10.drew := (Below.refl _ w10).drew
  clear hb10 Ix Kx Jx HGx HPx
  go_upto_region 16 with fail
  refine wp_region_held_drew (S := (fun w' => w'.cell? ⟨Y, 0, none⟩ = some (.int .i64 id) ∧ w'.cell? ⟨Y, 1, none⟩ = some (.slice s m cm) ∧ Y < w'.heap.size ∧ w'.cell? ⟨X1, 0, none⟩ = some (.int .i64 id) ∧ w'.cell? ⟨X1, 1, none⟩ = some (.slice (some ⟨b1, 0, none⟩) m m) ∧ X1 < w'.heap.size)) (by kernel_rfl) (HMK16.out _ j0) (fun hHeld => ?_)
  generalize w10.drew = wd at j0 hHeld ⊢
  refine wpAnyH_takeL (i := 0) (v := ?_) rfl (by kernel_rfl) (by kernel_rfl) (by kernel_rfl) (fun _ _ _ h => h) (Or.inl ⟨by rfl, ?_⟩) hHeld ?_
  rotate_left
  · (intro w hSw; (try dsimp only at hSw); go_simp; try with_reducible rfl)
  try go_frame
  refine wpAnyH_takeL (i := 1) (v := ?_) rfl (by kernel_rfl) (by kernel_rfl) (by kernel_rfl) (fun _ _ _ h => h) (Or.inl ⟨by rfl, ?_⟩) hHeld ?_
  rotate_left
  · (intro w hSw; (try dsimp only at hSw); go_simp; try with_reducible rfl)
  try go_frame
  refine wpAnyH_ready (rs := [2]) (by kernel_rfl) (by simp) ?_
  refine consL rfl (fun K hK => ?_) AllReadyH.nil
  go_simp
  refine (CQ.out _ (K10.out.trans (j0.mono K10.out.size))).mono ?_
  rintro e wE ⟨bE, rfl, _, _, hLE, _, hbE⟩
  have jE := j0.trans (hbE.mono j0.size)
  go_wp2_with fail
  refine hK.out _ _ (HMK16.out _ jE) (fun hHeld => ?_)
  clear hK K
  try go_frame
  refine wpAnyH_ready (rs := [3]) (by kernel_rfl) (by simp) ?_
  refine consL rfl (fun K hK => ?_) AllReadyH.nil
  go_simp
  refine (eqPost_same id _ _ _ _ _ _ _ L wE (HL10.out.keep jE) hLE).mono ?_
  rintro e w11 ⟨rfl, hb11⟩
  have j11 := jE.trans (hb11.mono jE.size)
  clear hLE hbE hb11
  go_wp2_with fail
  refine hK.out _ _ (HMK16.out _ j11) (fun hHeld => ?_)
  clear hK K
  try go_frame
  refine wpAnyH_takeL (i := 4) (v := ?_) rfl (by kernel_rfl) (by kernel_rfl) (by kernel_rfl) (fun _ _ _ h => h) (Or.inl ⟨by rfl, ?_⟩) hHeld ?_
  rotate_left
  · (intro w hSw; (try dsimp only at hSw); go_simp; try with_reducible rfl)
  try go_frame
  refine wpAnyH_done (by kernel_rfl) ?_ _
  have I11 : Hid (Below w8.heap.size w8 w11) := I10.out.trans (j11.mono I10.out.size)
  have K11 : Hid (Below W.heap.size W w11) := K10.out.trans (j11.mono K10.out.size)
  have J11 : Hid (Below w5.heap.size w5 w11) := J10.out.trans (j11.mono J10.out.size)
  have HG11 : Hid (PostsZ w11 z8 (.slice a9 N c9) G9 R) := HG10.out.below j11
  have HP11 : Hid (PostsAt w11 (some ⟨x0, 0, none⟩) n1 n1 B1) := (HP6.out.keep I8.out).keep I11.out
  have HBK11 : Hid (BlockOf w11 x0 29 (n1 * 2)) := (HBK6.out.below I8.out).below I11.out
  have HLO11 : Hid (∀ j, j < n1 → LegOwn x0 z6 x0 w11 j) := fun j hj => ((HLO6.out j hj).below I8.out).below I11.out
  have HBL11 : Hid (BlockOf w11 b1 69 (m * 3)) := HBL8.out.below I11.out
  clear hHeld j0 jE j11 I10 K10 J10 HG10 HL10 HMK16
  -- marks on the arguments
  have hmk : marksTo w11 x0 n1 ≤ 4000000 := by
    have h0 := marksTo_posts HP11.out n1 (Nat.le_refl _)
    have h1 := legSum_le B1 n1
    have h2 := HSUM.out
    omega
  obtain ⟨M, hM⟩ : ∃ M, M = marksTo w11 x0 n1 := ⟨_, rfl⟩
  have CM : Hid (Calls Tryd.prog 43 #[.slice (some ⟨x0, 0, none⟩) n1 n1, .int .i64 ((1 : Nat) : Int)] w11 fun e w' => e = .returned (.int .i64 ((1 + M : Nat) : Int)) ∧ MarkK x0 z6 x0 w11 w') := by
    show Calls _ _ _ _ _
    rw [hM]
    exact markPosts_any x0 z6 x0 n1 n1 1 w11 HBK11.out (Nat.le_refl _) (by unfold maxLen; omega) (Nat.le_refl _) HX6.out HLO11.out (Nat.le_refl _) (by omega)
  rw [← hM] at hmk
  clear hM HP11 HBK11 HLO11
  go_wp2_with fail
  refine (CM.out).mono ?_
  rintro e w12 ⟨rfl, hK12⟩
  have hx0w : W.heap.size ≤ x0 := by rw [HX0.out]; exact K5.out.size
  have K12 : Hid (Below W.heap.size W w12) := K11.out.trans (hK12.below hx0w K11.out.size)
  have J12 : Hid (Below w5.heap.size w5 w12) := J11.out.trans (hK12.below (by rw [HX0.out]; exact Nat.le_refl _) J11.out.size)
  have hz6b : z6 ≤ X1 := by omega
  have d0 : w12.cell? ⟨X1, 0, none⟩ = some (.int .i64 id) := (World.cell?_of_block (hK12.far X1 (Nat.lt_of_lt_of_le hX8 I11.out.size) (Or.inr hz6b))).trans (cell_later I11.out e0)
  have d1 : w12.cell? ⟨X1, 1, none⟩ = some (.slice (some ⟨b1, 0, none⟩) m m) := (World.cell?_of_block (hK12.far X1 (Nat.lt_of_lt_of_le hX8 I11.out.size) (Or.inr hz6b))).trans (cell_later I11.out e1)
  have hX12 : X1 < w12.heap.size := World.block_lt_of_cell? _ _ d0
  have HG12 : Hid (PostsZ w12 z8 (.slice a9 N c9) G9 R) := HG11.out.move (fun g hg hlt => hK12.far g hlt (Or.inr (by omega)))
  have HBL12 : Hid (BlockOf w12 b1 69 (m * 3)) := hK12.blk _ _ _ HBL11.out
  have HS12 : Hid (w8.heap.size ≤ w12.heap.size) := Nat.le_trans I11.out.size hK12.size
  clear hK12 K11 J11 HG11 HBL11 CM I11
  have CM2 : Hid (Calls Tryd.prog 18 #[.agg #[.int .i64 id, .slice (some ⟨b1, 0, none⟩) m m], .int .i64 ((1 + M : Nat) : Int)] w12 fun e w' => e = .returned (.int .i64 ((1 + M + 3 * m : Nat) : Int)) ∧ MarkK b1 (b1 + 1) x0 w12 w') := markPost_k id x0 b1 m m (1 + M) w12 HBL12.out (Nat.le_refl _) (by unfold maxLen; omega) (by have := HX6.out; omega) (by omega) (by omega)
  obtain ⟨M1, hM1⟩ : ∃ M1 : Int, M1 = ((1 + M : Nat) : Int) := ⟨_, rfl⟩
  obtain ⟨M2, hM2⟩ : ∃ M2 : Int, M2 = ((1 + M + 3 * m : Nat) : Int) := ⟨_, rfl⟩
  have hpos : ¬ M2 < 0 := by omega
  rw [← hM1, ← hM2] at CM2
  rw [← hM1]
  clear hM1 hM2
  go_wp2_with fail
  refine (CM2.out).mono ?_
  rintro e w13 ⟨rfl, hK13⟩
  have K13 : Hid (Below W.heap.size W w13) := K12.out.trans (hK13.below (by have := HX6.out; omega) K12.out.size)
  have J13 : Hid (Below w5.heap.size w5 w13) := J12.out.trans (hK13.below (by have := HX0.out; have := HX6.out; omega) J12.out.size)
  have HG13 : Hid (PostsZ w13 z8 (.slice a9 N c9) G9 R) := HG12.out.move (fun g hg hlt => hK13.far g hlt (Or.inr (by omega)))
  have HS13 : Hid (z8 ≤ w13.heap.size) := Nat.le_trans (Nat.le_of_eq HZ8.out) (Nat.le_trans HS12.out hK13.size)
  clear hK13 K12 J12 HG12 HBL12 CM2 d0 d1 hX12
  go_wp2_with fail
  refine (eqPostS_same _ _ N _ _ R _ (HG13.out.postsAt HN.out HWF.out) (HW0.out.keep J13.out)).mono ?_
  rintro e w14 ⟨rfl, hb14⟩
  have K14 : Hid (Below W.heap.size W w14) := K13.out.trans (hb14.mono K13.out.size)
  have J14 : Hid (Below w5.heap.size w5 w14) := J13.out.trans (hb14.mono J13.out.size)
  have HG14 : Hid (PostsZ w14 z8 (.slice a9 N c9) G9 R) := HG13.out.below hb14
  have HS14 : Hid (z8 ≤ w14.heap.size) := Nat.le_trans HS13.out hb14.size
  clear hb14 K13 J13 HG13 HS13
  -- marks on the answer
  obtain ⟨Q, hQ⟩ : ∃ Q : Int, Q = ((1 + szB R : Nat) : Int) := ⟨_, rfl⟩
  have hQ0 : ¬ Q < 0 := by omega
  have CK : Hid (Calls Tryd.prog 43 #[.slice a9 N c9, .int .i64 ((1 : Nat) : Int)] w14 fun e w' => e = .returned (.int .i64 Q) ∧ PostsZ w' z8 (.slice a9 N c9) G9 (mrkB 1 R) ∧ Below z8 w14 w') := by
    show Calls _ _ _ _ _
    rw [hQ]
    exact markB_any z8 _ G9 R 1 w14 HG14.out (Nat.le_refl _) (by have := HZZ.out; omega) (by rw [HN.out]; omega) HS14.out
  have CH : Hid (∀ w', PostsZ w' z8 (.slice a9 N c9) G9 (mrkB 1 R) → Calls Tryd.prog 44 #[.slice a9 N c9, .int .i64 ((1 : Nat) : Int)] w' fun e w'' => e = .returned (.int .i64 Q) ∧ Below w'.heap.size w' w'') := fun w' h => by
    rw [hQ]
    exact heldB_any z8 _ G9 R 1 w' h (Nat.le_refl _) (by have := HZZ.out; omega) (by rw [HN.out]; omega)
  clear hQ
  go_wp2_with fail
  refine (CK.out).mono ?_
  rintro e w15 ⟨rfl, hZ15, hb15⟩
  have hWz : W.heap.size ≤ z8 := by rw [HZ8.out]; exact K8.out.size
  have h5z : w5.heap.size ≤ z8 := by rw [HZ8.out]; exact J8.out.size
  have K15 : Hid (Below W.heap.size W w15) := K14.out.trans (hb15.mono hWz)
  have J15 : Hid (Below w5.heap.size w5 w15) := J14.out.trans (hb15.mono h5z)
  have HG15 : Hid (PostsZ w15 z8 (.slice a9 N c9) G9 (mrkB 1 R)) := hZ15
  clear hb15 hZ15 K14 J14 HG14 CK hWz h5z
  go_wp2_with fail
  refine (CH.out _ HG15.out).mono ?_
  rintro e w17 ⟨rfl, hb17⟩
  have K17 : Hid (Below W.heap.size W w17) := K15.out.trans (hb17.mono K15.out.size)
  have J17 : Hid (Below w5.heap.size w5 w17) := J15.out.trans (hb17.mono J15.out.size)
  have HG17 : Hid (PostsZ w17 z8 (.slice a9 N c9) G9 (mrkB 1 R)) := HG15.out.below hb17
  have hQQ : (Q == Q) = true := by simp
  have kr : Below W.heap.size W w17.drew := K17.out.drew
  have ir : Below w17.heap.size w17 w17.drew := (Below.refl _ w17).drew
  clear hb17 K15 J15 HG15
  go_upto_region 31 with fail
  refine wp_region_held_drew (S := (fun w' => w'.cell? ⟨Y, 0, none⟩ = some (.int .i64 id) ∧ w'.cell? ⟨Y, 1, none⟩ = some (.slice s m cm) ∧ Y < w'.heap.size)) (by kernel_rfl) (HMK.out _ kr) (fun hHeld => ?_)
  generalize w17.drew = wd at kr ir hHeld ⊢
  refine wpAnyH_takeL (i := 0) (v := ?_) rfl (by kernel_rfl) (by kernel_rfl) (by kernel_rfl) (fun _ _ _ h => h) (Or.inl ⟨by rfl, ?_⟩) hHeld ?_
  rotate_left
  · (intro w hSw; (try dsimp only at hSw); go_simp; try with_reducible rfl)
  try go_frame
  refine wpAnyH_takeL (i := 2) (v := ?_) rfl (by kernel_rfl) (by kernel_rfl) (by kernel_rfl) (fun _ _ _ h => h) (Or.inl ⟨by rfl, ?_⟩) hHeld ?_
  rotate_left
  · (intro w hSw; (try dsimp only at hSw); go_simp; try with_reducible rfl)
  try go_frame
  refine wpAnyH_ready (rs := [1]) (by kernel_rfl) (by simp) ?_
  refine consL rfl (fun K hK => ?_) AllReadyH.nil
  go_simp
  refine (CP.out _ kr).mono ?_
  rintro e wA ⟨rfl, hPA, _, _, _, hbA⟩
  have kA := kr.trans (hbA.mono kr.size)
  have iA := ir.trans (hbA.mono ir.size)
  obtain ⟨xA, hxA⟩ : ∃ x, x = wd.heap.size := ⟨_, rfl⟩
  rw [← hxA] at hPA ⊢
  clear hxA
  go_wp2_with fail
  refine hK.out _ _ (HMK.out _ kA) (fun hHeld => ?_)
  clear hK K
  try go_frame
  refine wpAnyH_ready (rs := [3]) (by kernel_rfl) (by simp) ?_
  refine consL rfl (fun K hK => ?_) AllReadyH.nil
  go_simp
  refine (CQ.out _ kA).mono ?_
  rintro e wB ⟨bB, rfl, _, _, hLB, _, hbB⟩
  have kB := kA.trans (hbB.mono kA.size)
  have iB := iA.trans (hbB.mono iA.size)
  have hPB := hPA.keep hbB
  clear hPA hbB hbA
  go_wp2_with fail
  refine hK.out _ _ (HMK.out _ kB) (fun hHeld => ?_)
  clear hK K
  try go_frame
  refine wpAnyH_ready (rs := [4]) (by kernel_rfl) (by simp) ?_
  refine consL rfl (fun K hK => ?_) AllReadyH.nil
  go_simp
  refine (implBookPost _ _ _ B1 id _ _ _ L wB hPB hLB (HET.out.keep (KW.out.trans (kB.mono KW.out.size)))).mono ?_
  rintro e w18 ⟨⟨v3, G3, rfl, hZ3⟩, hb18⟩
  have k18 := kB.trans (hb18.mono kB.size)
  have i18 := iB.trans (hb18.mono iB.size)
  rw [← HC.out]
  rw [← HR.out] at hZ3
  obtain ⟨a3, c3, rfl⟩ := hZ3.form
  have HW3 : Hid (PostsAt w18 a3 R.length c3 R) := hZ3.postsAt rfl HWF.out
  rw [HN.out] at HW3 ⊢
  clear hPB hLB hZ3 hb18
  go_wp2_with fail
  refine hK.out _ _ (HMK.out _ k18) (fun hHeld => ?_)
  clear hK K
  try go_frame
  refine wpAnyH_takeL (i := 5) (v := ?_) rfl (by kernel_rfl) (by kernel_rfl) (by kernel_rfl) (fun _ _ _ h => h) (Or.inl ⟨by rfl, ?_⟩) hHeld ?_
  rotate_left
  · (intro w hSw; (try dsimp only at hSw); go_simp; try with_reducible rfl)
  try go_frame
  refine wpAnyH_takeL (i := 6) (v := ?_) rfl (by kernel_rfl) (by kernel_rfl) (by kernel_rfl) (fun _ _ _ h => h) (Or.inl ⟨by rfl, ?_⟩) hHeld ?_
  rotate_left
  · (intro w hSw; (try dsimp only at hSw); go_simp; try with_reducible rfl)
  try go_frame
  refine wpAnyH_takeL (i := 7) (v := ?_) rfl (by kernel_rfl) (by kernel_rfl) (by kernel_rfl) (fun _ _ _ h => h) (Or.inl ⟨by rfl, ?_⟩) hHeld ?_
  rotate_left
  · (intro w hSw; (try dsimp only at hSw); go_simp; try with_reducible rfl)
  try go_frame
  refine wpAnyH_takeL (i := 8) (v := ?_) rfl (by kernel_rfl) (by kernel_rfl) (by kernel_rfl) (fun _ _ _ h => h) (Or.inl ⟨by rfl, ?_⟩) hHeld ?_
  rotate_left
  · (intro w hSw; (try dsimp only at hSw); go_simp; try with_reducible rfl)
  try go_frame
  refine wpAnyH_takeL (i := 9) (v := ?_) rfl (by kernel_rfl) (by kernel_rfl) (by kernel_rfl) (fun _ _ _ h => h) (Or.inl ⟨by rfl, ?_⟩) hHeld ?_
  rotate_left
  · (intro w hSw; (try dsimp only at hSw); go_simp; try with_reducible rfl)
  try go_frame
  refine wpAnyH_done (by kernel_rfl) ?_ _
  have K18 : Hid (Below W.heap.size W w18) := k18
  have J18 : Hid (Below w5.heap.size w5 w18) := J17.out.trans (i18.mono J17.out.size)
  have HG18 : Hid (PostsZ w18 z8 (.slice a9 N c9) G9 (mrkB 1 R)) := HG17.out.below i18
  clear hHeld kr ir kA iA kB iB k18 i18
  go_wp2_with fail
  refine (eqPostS_same _ _ N _ _ R _ HW3.out (HW0.out.keep J18.out)).mono ?_
  rintro e w19 ⟨rfl, hb19⟩
  have K19 : Hid (Below W.heap.size W w19) := K18.out.trans (hb19.mono K18.out.size)
  have HG19 : Hid (PostsZ w19 z8 (.slice a9 N c9) G9 (mrkB 1 R)) := HG18.out.below hb19
  clear hb19 K18 J18 HG18
  go_wp2_with fail
  refine (CH.out _ HG19.out).mono ?_
  rintro e w20 ⟨rfl, hb20⟩
  have K20 : Hid (Below W.heap.size W w20) := K19.out.trans (hb20.mono K19.out.size)
  clear hb20 K19 HG19
  go_wp2
  go_ret
  exact ⟨rfl, KW.out.trans (K20.out.mono KW.out.size)⟩
end Go.Proofs.YtfblpbihpmhgjaaDoor
