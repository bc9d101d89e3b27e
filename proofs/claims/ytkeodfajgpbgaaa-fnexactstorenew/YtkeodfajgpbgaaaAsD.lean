/-
  What the program's asDisk makes of any disk: the same in new memory; by a walk of its Go text.
-/
import Derived.Test.YtkeodfajgpbgaaaAsT
namespace Go.Proofs.Ytkeodfajgpbgaaa
open Go.RowKit

/-- The same disk, in new memory. -/
def AsDR (lg : ByteArray) (sf sd : Int) (V : List (List RunD)) (w : World) (e : Ending) (w' : World) : Prop :=
  ∃ vb : Nat, e = .returned (.agg #[.string lg, .int .i64 sf, .slice (some ⟨vb, 0, none⟩) 3 3, .int .i64 sd]) ∧ LevelsIn w.heap.size w' (some ⟨vb, 0, none⟩) 3 3 V ∧ Below w.heap.size w w'

set_option maxRecDepth 100000 in
set_option maxHeartbeats 16000000 in
theorem asDisk_any (lo : Nat) (lg : ByteArray) (sf sd : Int) (a0 a1 a2 : Option Addr) (n0 c0 n1 c1 n2 c2 : Nat) (A B C : List RunD) (w : World) (h0 : RunsIn lo w a0 n0 c0 A) (h1 : RunsIn lo w a1 n1 c1 B) (h2 : RunsIn lo w a2 n2 c2 C)
    (bl : lg.size ≤ 281474976710656) (b0 : SmallR A) (b1 : SmallR B) (b2 : SmallR C) (e0 : SmallRE A) (e1 : SmallRE B) (e2 : SmallRE C) :
    Calls Try.prog 147 #[.agg #[.string lg, .int .i64 sf, .slice a0 n0 c0, .slice a1 n1 c1, .slice a2 n2 c2, .int .i64 sd]] w (AsDR lg sf sd [A, B, C] w) := by
  obtain ⟨X, hX⟩ : ∃ X, X = w.heap.size := ⟨_, rfl⟩
  obtain ⟨W0, hW0⟩ : ∃ W0, W0 = (w.alloc (.cells #[.string lg, .int .i64 sf, .slice a0 n0 c0, .slice a1 n1 c1, .slice a2 n2 c2, .int .i64 sd] 121)).alloc (.cells #[.string ⟨#[]⟩, .int .i64 0, .slice none 0 0, .int .i64 0] 37) := ⟨_, rfl⟩
  have kW : Below w.heap.size w W0 := by rw [hW0]; exact ((Below.refl _ _).alloc (Nat.le_refl _) _).alloc (by simp) _
  have x0 : W0.cell? ⟨X, 0, none⟩ = some (.string lg) := by rw [hW0, hX]; simp
  have x1 : W0.cell? ⟨X, 1, none⟩ = some (.int .i64 sf) := by rw [hW0, hX]; simp
  have x2 : W0.cell? ⟨X, 2, none⟩ = some (.slice a0 n0 c0) := by rw [hW0, hX]; simp
  have x3 : W0.cell? ⟨X, 3, none⟩ = some (.slice a1 n1 c1) := by rw [hW0, hX]; simp
  have x4 : W0.cell? ⟨X, 4, none⟩ = some (.slice a2 n2 c2) := by rw [hW0, hX]; simp
  have x5 : W0.cell? ⟨X, 5, none⟩ = some (.int .i64 sd) := by rw [hW0, hX]; simp
  have br : Box4 W0 (X + 1) (.string ⟨#[]⟩) (.int .i64 0) (.slice none 0 0) (.int .i64 0) := by
    have := Box4.new (w.alloc (.cells #[.string lg, .int .i64 sf, .slice a0 n0 c0, .slice a1 n1 c1, .slice a2 n2 c2, .int .i64 sd] 121)) 37 (.string ⟨#[]⟩) (.int .i64 0) (.slice none 0 0) (.int .i64 0)
    rw [World.size_alloc] at this
    rw [hW0, hX]
    exact this
  have hsz : W0.heap.size = X + 1 + 1 := by rw [hW0, hX]; simp
  have BR : Hid (Box4 W0 (X + 1) (.string ⟨#[]⟩) (.int .i64 0) (.slice none 0 0) (.int .i64 0)) := br
  have HXW : Hid (X = w.heap.size) := hX
  have HSZ : Hid (W0.heap.size = X + 1 + 1) := hsz
  have KW : Hid (Below w.heap.size w W0) := kW
  have CE : Hid (∀ w', Calls Try.prog 98 #[.string lg] w' fun e w'' => e = .returned (.string lg) ∧ Below w'.heap.size w' w'') := fun w' => strClone lg w' bl
  have CR0 : Hid (∀ w', Below W0.heap.size W0 w' → Calls Try.prog 202 #[.slice a0 n0 c0] w' fun e w'' => ∃ b : Nat, e = .returned (.slice (some ⟨b, 0, none⟩) n0 n0) ∧ RunsIn w'.heap.size w'' (some ⟨b, 0, none⟩) n0 n0 A ∧ Below w'.heap.size w' w'') := fun w' k => (cloneR_any lo a0 n0 c0 A w' ((h0.keep kW).keep k) b0 e0).mono (fun e w'' h => ⟨_, h.1, h.2.1, h.2.2.2⟩)
  have CR1 : Hid (∀ w', Below W0.heap.size W0 w' → Calls Try.prog 202 #[.slice a1 n1 c1] w' fun e w'' => ∃ b : Nat, e = .returned (.slice (some ⟨b, 0, none⟩) n1 n1) ∧ RunsIn w'.heap.size w'' (some ⟨b, 0, none⟩) n1 n1 B ∧ Below w'.heap.size w' w'') := fun w' k => (cloneR_any lo a1 n1 c1 B w' ((h1.keep kW).keep k) b1 e1).mono (fun e w'' h => ⟨_, h.1, h.2.1, h.2.2.2⟩)
  have CR2 : Hid (∀ w', Below W0.heap.size W0 w' → Calls Try.prog 202 #[.slice a2 n2 c2] w' fun e w'' => ∃ b : Nat, e = .returned (.slice (some ⟨b, 0, none⟩) n2 n2) ∧ RunsIn w'.heap.size w'' (some ⟨b, 0, none⟩) n2 n2 C ∧ Below w'.heap.size w' w'') := fun w' k => (cloneR_any lo a2 n2 c2 C w' ((h2.keep kW).keep k) b2 e2).mono (fun e w'' h => ⟨_, h.1, h.2.1, h.2.2.2⟩)
  have k0 : Below W0.heap.size W0 W0.drew := (Below.refl _ W0).drew
  have HMK : Hid (∀ w', Below W0.heap.size W0 w' → (w'.cell? ⟨X, 0, none⟩ = some (.string lg) ∧ w'.cell? ⟨X, 1, none⟩ = some (.int .i64 sf) ∧ w'.cell? ⟨X, 5, none⟩ = some (.int .i64 sd) ∧ X < w'.heap.size)) := fun w' kk => ⟨cell_later kk x0, cell_later kk x1, cell_later kk x5, World.block_lt_of_cell? _ _ (cell_later kk x0)⟩
  obtain ⟨i1, hi1, hz10, hz11, hz12⟩ := info_parts Try.infoRunL
  clear br kW h0 h1 h2 b0 b1 b2 e0 e1 e2 bl hsz
  go_enter Try.func147, Try.ntmps147
  go_upto_region 1 with fail
  rw [← hX, ← hW0]
  clear hX hW0
  go_cut [3] (fun s3 wx => ∃ (P vb : Nat) (xs : List Value), s3 = .pointer (some ⟨P, 0, none⟩) ∧ Box4 wx P (.string lg) (.int .i64 sf) (.slice (some ⟨vb, 0, none⟩) 3 3) (.int .i64 sd) ∧ wx.ownsRow W0.heap.size 111 1 (.slice (some ⟨vb, 0, none⟩) 3 3) 3 xs ∧ vb ≠ P ∧ W0.heap.size ≤ P ∧ Below W0.heap.size W0 wx)
  case first =>
    refine wp_region_held_drew (S := (fun w' => w'.cell? ⟨X, 0, none⟩ = some (.string lg) ∧ w'.cell? ⟨X, 1, none⟩ = some (.int .i64 sf) ∧ w'.cell? ⟨X, 5, none⟩ = some (.int .i64 sd) ∧ X < w'.heap.size)) (by kernel_rfl) (HMK.out _ k0) (fun hHeld => ?_)
    generalize W0.drew = wd at k0 hHeld ⊢
    refine wpAnyH_takeL (i := 0) (v := ?_) rfl (by kernel_rfl) (by kernel_rfl) (by kernel_rfl) (fun _ _ _ h => h) (Or.inl ⟨by rfl, ?_⟩) hHeld ?_
    rotate_left
    · (intro w hSw; (try dsimp only at hSw); go_simp; try with_reducible rfl)
    try go_frame
    refine wpAnyH_takeL (i := 1) (v := ?_) rfl (by kernel_rfl) (by kernel_rfl) (by kernel_rfl) (fun _ _ _ h => h) (Or.inl ⟨by rfl, ?_⟩) hHeld ?_
    rotate_left
    · (intro w hSw; (try dsimp only at hSw); go_simp; try with_reducible rfl)
    try go_frame
    refine wpAnyH_takeL (i := 3) (v := ?_) rfl (by kernel_rfl) (by kernel_rfl) (by kernel_rfl) (fun _ _ _ h => h) (Or.inl ⟨by rfl, ?_⟩) hHeld ?_
    rotate_left
    · (intro w hSw; (try dsimp only at hSw); go_simp; try with_reducible rfl)
    try go_frame
    refine wpAnyH_takeL (i := 4) (v := ?_) rfl (by kernel_rfl) (by kernel_rfl) (by kernel_rfl) (fun _ _ _ h => h) (Or.inl ⟨by rfl, ?_⟩) hHeld ?_
    rotate_left
    · (intro w hSw; (try dsimp only at hSw); go_simp; try with_reducible rfl)
    try go_frame
    refine wpAnyH_takeL (i := 6) (v := ?_) rfl (by kernel_rfl) (by kernel_rfl) (by kernel_rfl) (fun _ _ _ h => h) (Or.inl ⟨by rfl, ?_⟩) hHeld ?_
    rotate_left
    · (intro w hSw; (try dsimp only at hSw); go_simp; try with_reducible rfl)
    try go_frame
    refine wpAnyH_takeL (i := 7) (v := ?_) rfl (by kernel_rfl) (by kernel_rfl) (by kernel_rfl) (fun _ _ _ h => h) (Or.inl ⟨by rfl, ?_⟩) hHeld ?_
    rotate_left
    · (intro w hSw; (try dsimp only at hSw); go_simp; try with_reducible rfl)
    try go_frame
    refine wpAnyH_ready (rs := [2, 5, 9]) (by kernel_rfl) (by simp) ?_
    refine consL rfl (fun K hK => ?_) (consL rfl (fun K hK => ?_) (consL rfl (fun K hK => ?_) AllReadyH.nil))
    · go_simp
      refine (CE.out _).mono ?_
      rintro e we ⟨rfl, be⟩
      have k0e : Below W0.heap.size W0 we := k0.trans (be.mono k0.size)
      clear be
      go_wp2_with fail
      refine hK.out _ _ (HMK.out _ k0e) (fun hHeld => ?_)
      clear hK K
      try go_frame
      refine wpAnyH_ready (rs := [5, 9]) (by kernel_rfl) (by simp) ?_
      refine consL rfl (fun K hK => ?_) (consL rfl (fun K hK => ?_) AllReadyH.nil)
      · refine step_make_full rfl (.const (.int .i64 3)) (.const (.int .i64 3)) 30 rfl W0.heap.size 111 i1 _ 1 Try.underlying30 hi1 hz10 hz11 .i64 .i64 _ _ 3 rfl rfl (by simp) (by simp) (by rw [hz12]; omega) (by unfold maxLen; omega) k0e.size ?_
        intro wv hov hgv
        have bv : Below we.heap.size we wv := (Below.refl _ _).grown hgv (Nat.le_refl _) (by simp)
        have k0ev : Below W0.heap.size W0 wv := k0e.trans (bv.mono k0e.size)
        generalize we.heap.size = vb at hov  ⊢
        have hv : wv.ownsRow W0.heap.size 111 1 (.slice (some ⟨vb, 0, none⟩) 3 3) 3 _ := hov
        clear hov hgv bv
        refine hK.out _ _ (HMK.out _ k0ev) (fun hHeld => ?_)
        clear hK K
        try go_frame
        refine wpAnyH_takeL (i := 8) (v := ?_) rfl (by kernel_rfl) (by kernel_rfl) (by kernel_rfl) (fun _ _ _ h => h) (Or.inl ⟨by rfl, ?_⟩) hHeld ?_
        rotate_left
        · (intro w hSw; (try dsimp only at hSw); go_simp; try with_reducible rfl)
        try go_frame
        refine wpAnyH_ready (rs := [9]) (by kernel_rfl) (by simp) ?_
        refine consL rfl (fun K hK => ?_) AllReadyH.nil
        go_simp
        have lv := (hv.lt vb rfl).2
        have bp : Below wv.heap.size wv (wv.alloc (.cells #[.string ⟨#[]⟩, .int .i64 0, .slice none 0 0, .int .i64 0] 37)) := (Below.refl _ _).alloc (Nat.le_refl _) _
        have hp := Box4.new wv 37 (.string ⟨#[]⟩) (.int .i64 0) (.slice none 0 0) (.int .i64 0)
        have k0evp : Below W0.heap.size W0 (wv.alloc (.cells #[.string ⟨#[]⟩, .int .i64 0, .slice none 0 0, .int .i64 0] 37)) := k0ev.trans (bp.mono k0ev.size)
        have hv := row_keep hv bp
        have nvp : vb ≠ wv.heap.size := by omega
        clear lv
        have hPw : W0.heap.size ≤ wv.heap.size := k0ev.size
        generalize wv.alloc (.cells #[.string ⟨#[]⟩, .int .i64 0, .slice none 0 0, .int .i64 0] 37) = wp at hp k0evp bp hv ⊢
        generalize wv.heap.size = P at hp hPw nvp ⊢
        clear bp
        refine hK.out _ _ (HMK.out _ k0evp) (fun hHeld => ?_)
        clear hK K
        try go_frame
        refine wpAnyH_ready (rs := [10]) (by kernel_rfl) (by simp) ?_
        refine consL rfl (fun K hK => ?_) AllReadyH.nil
        have c0 := hp.c0
        have c1 := hp.c1
        have c2 := hp.c2
        have c3 := hp.c3
        have fz := hp.fz
        have zp := hp.lt
        go_simp
        have kz := (((k0evp.setCell (p := ⟨P, 0, none⟩) hPw (.string lg)).setCell (p := ⟨P, 1, none⟩) hPw (.int .i64 sf)).setCell (p := ⟨P, 2, none⟩) hPw (.slice (some ⟨vb, 0, none⟩) 3 3)).setCell (p := ⟨P, 3, none⟩) hPw (.int .i64 sd)
        have hq := (((hp.set0 (.string lg)).set1 (.int .i64 sf)).set2 (.slice (some ⟨vb, 0, none⟩) 3 3)).set3 (.int .i64 sd)
        have hv := row_set (row_set (row_set (row_set hv (nvp) 0 (.string lg)) (nvp) 1 (.int .i64 sf)) (nvp) 2 (.slice (some ⟨vb, 0, none⟩) 3 3)) (nvp) 3 (.int .i64 sd)
        clear c0 c1 c2 c3 fz zp
        refine hK.out _ _ (HMK.out _ kz) (fun hHeld => ?_)
        clear hK K
        try go_frame
        refine wpAnyH_done (by kernel_rfl) ?_ _
        go_wp2
        go_meet
        exact ⟨P, vb, _, rfl, hq, hv, nvp, hPw, kz⟩
      · go_simp
        have bp : Below we.heap.size we (we.alloc (.cells #[.string ⟨#[]⟩, .int .i64 0, .slice none 0 0, .int .i64 0] 37)) := (Below.refl _ _).alloc (Nat.le_refl _) _
        have hp := Box4.new we 37 (.string ⟨#[]⟩) (.int .i64 0) (.slice none 0 0) (.int .i64 0)
        have k0ep : Below W0.heap.size W0 (we.alloc (.cells #[.string ⟨#[]⟩, .int .i64 0, .slice none 0 0, .int .i64 0] 37)) := k0e.trans (bp.mono k0e.size)
        have hPw : W0.heap.size ≤ we.heap.size := k0e.size
        generalize we.alloc (.cells #[.string ⟨#[]⟩, .int .i64 0, .slice none 0 0, .int .i64 0] 37) = wp at hp k0ep bp  ⊢
        generalize we.heap.size = P at hp hPw  ⊢
        clear bp
        refine hK.out _ _ (HMK.out _ k0ep) (fun hHeld => ?_)
        clear hK K
        try go_frame
        refine wpAnyH_ready (rs := [5]) (by kernel_rfl) (by simp) ?_
        refine consL rfl (fun K hK => ?_) AllReadyH.nil
        have lp := hp.lt
        refine step_make_full rfl (.const (.int .i64 3)) (.const (.int .i64 3)) 30 rfl W0.heap.size 111 i1 _ 1 Try.underlying30 hi1 hz10 hz11 .i64 .i64 _ _ 3 rfl rfl (by simp) (by simp) (by rw [hz12]; omega) (by unfold maxLen; omega) k0ep.size ?_
        intro wv hov hgv
        have bv : Below wp.heap.size wp wv := (Below.refl _ _).grown hgv (Nat.le_refl _) (by simp)
        have k0epv : Below W0.heap.size W0 wv := k0ep.trans (bv.mono k0ep.size)
        have hp := hp.keep bv
        have npv : P ≠ wp.heap.size := by omega
        clear lp
        generalize wp.heap.size = vb at hov npv ⊢
        have hv : wv.ownsRow W0.heap.size 111 1 (.slice (some ⟨vb, 0, none⟩) 3 3) 3 _ := hov
        clear hov hgv bv
        refine hK.out _ _ (HMK.out _ k0epv) (fun hHeld => ?_)
        clear hK K
        try go_frame
        refine wpAnyH_takeL (i := 8) (v := ?_) rfl (by kernel_rfl) (by kernel_rfl) (by kernel_rfl) (fun _ _ _ h => h) (Or.inl ⟨by rfl, ?_⟩) hHeld ?_
        rotate_left
        · (intro w hSw; (try dsimp only at hSw); go_simp; try with_reducible rfl)
        try go_frame
        refine wpAnyH_ready (rs := [10]) (by kernel_rfl) (by simp) ?_
        refine consL rfl (fun K hK => ?_) AllReadyH.nil
        have c0 := hp.c0
        have c1 := hp.c1
        have c2 := hp.c2
        have c3 := hp.c3
        have fz := hp.fz
        have zp := hp.lt
        go_simp
        have kz := (((k0epv.setCell (p := ⟨P, 0, none⟩) hPw (.string lg)).setCell (p := ⟨P, 1, none⟩) hPw (.int .i64 sf)).setCell (p := ⟨P, 2, none⟩) hPw (.slice (some ⟨vb, 0, none⟩) 3 3)).setCell (p := ⟨P, 3, none⟩) hPw (.int .i64 sd)
        have hq := (((hp.set0 (.string lg)).set1 (.int .i64 sf)).set2 (.slice (some ⟨vb, 0, none⟩) 3 3)).set3 (.int .i64 sd)
        have hv := row_set (row_set (row_set (row_set hv (npv.symm) 0 (.string lg)) (npv.symm) 1 (.int .i64 sf)) (npv.symm) 2 (.slice (some ⟨vb, 0, none⟩) 3 3)) (npv.symm) 3 (.int .i64 sd)
        clear c0 c1 c2 c3 fz zp
        refine hK.out _ _ (HMK.out _ kz) (fun hHeld => ?_)
        clear hK K
        try go_frame
        refine wpAnyH_done (by kernel_rfl) ?_ _
        go_wp2
        go_meet
        exact ⟨P, vb, _, rfl, hq, hv, npv.symm, hPw, kz⟩
    · refine step_make_full rfl (.const (.int .i64 3)) (.const (.int .i64 3)) 30 rfl W0.heap.size 111 i1 _ 1 Try.underlying30 hi1 hz10 hz11 .i64 .i64 _ _ 3 rfl rfl (by simp) (by simp) (by rw [hz12]; omega) (by unfold maxLen; omega) k0.size ?_
      intro wv hov hgv
      have bv : Below wd.heap.size wd wv := (Below.refl _ _).grown hgv (Nat.le_refl _) (by simp)
      have k0v : Below W0.heap.size W0 wv := k0.trans (bv.mono k0.size)
      generalize wd.heap.size = vb at hov  ⊢
      have hv : wv.ownsRow W0.heap.size 111 1 (.slice (some ⟨vb, 0, none⟩) 3 3) 3 _ := hov
      clear hov hgv bv
      refine hK.out _ _ (HMK.out _ k0v) (fun hHeld => ?_)
      clear hK K
      try go_frame
      refine wpAnyH_ready (rs := [2, 9]) (by kernel_rfl) (by simp) ?_
      refine consL rfl (fun K hK => ?_) (consL rfl (fun K hK => ?_) AllReadyH.nil)
      · go_simp
        refine (CE.out _).mono ?_
        rintro e we ⟨rfl, be⟩
        have k0ve : Below W0.heap.size W0 we := k0v.trans (be.mono k0v.size)
        have hv := row_keep hv be
        clear be
        go_wp2_with fail
        refine hK.out _ _ (HMK.out _ k0ve) (fun hHeld => ?_)
        clear hK K
        try go_frame
        refine wpAnyH_takeL (i := 8) (v := ?_) rfl (by kernel_rfl) (by kernel_rfl) (by kernel_rfl) (fun _ _ _ h => h) (Or.inl ⟨by rfl, ?_⟩) hHeld ?_
        rotate_left
        · (intro w hSw; (try dsimp only at hSw); go_simp; try with_reducible rfl)
        try go_frame
        refine wpAnyH_ready (rs := [9]) (by kernel_rfl) (by simp) ?_
        refine consL rfl (fun K hK => ?_) AllReadyH.nil
        go_simp
        have lv := (hv.lt vb rfl).2
        have bp : Below we.heap.size we (we.alloc (.cells #[.string ⟨#[]⟩, .int .i64 0, .slice none 0 0, .int .i64 0] 37)) := (Below.refl _ _).alloc (Nat.le_refl _) _
        have hp := Box4.new we 37 (.string ⟨#[]⟩) (.int .i64 0) (.slice none 0 0) (.int .i64 0)
        have k0vep : Below W0.heap.size W0 (we.alloc (.cells #[.string ⟨#[]⟩, .int .i64 0, .slice none 0 0, .int .i64 0] 37)) := k0ve.trans (bp.mono k0ve.size)
        have hv := row_keep hv bp
        have nvp : vb ≠ we.heap.size := by omega
        clear lv
        have hPw : W0.heap.size ≤ we.heap.size := k0ve.size
        generalize we.alloc (.cells #[.string ⟨#[]⟩, .int .i64 0, .slice none 0 0, .int .i64 0] 37) = wp at hp k0vep bp hv ⊢
        generalize we.heap.size = P at hp hPw nvp ⊢
        clear bp
        refine hK.out _ _ (HMK.out _ k0vep) (fun hHeld => ?_)
        clear hK K
        try go_frame
        refine wpAnyH_ready (rs := [10]) (by kernel_rfl) (by simp) ?_
        refine consL rfl (fun K hK => ?_) AllReadyH.nil
        have c0 := hp.c0
        have c1 := hp.c1
        have c2 := hp.c2
        have c3 := hp.c3
        have fz := hp.fz
        have zp := hp.lt
        go_simp
        have kz := (((k0vep.setCell (p := ⟨P, 0, none⟩) hPw (.string lg)).setCell (p := ⟨P, 1, none⟩) hPw (.int .i64 sf)).setCell (p := ⟨P, 2, none⟩) hPw (.slice (some ⟨vb, 0, none⟩) 3 3)).setCell (p := ⟨P, 3, none⟩) hPw (.int .i64 sd)
        have hq := (((hp.set0 (.string lg)).set1 (.int .i64 sf)).set2 (.slice (some ⟨vb, 0, none⟩) 3 3)).set3 (.int .i64 sd)
        have hv := row_set (row_set (row_set (row_set hv (nvp) 0 (.string lg)) (nvp) 1 (.int .i64 sf)) (nvp) 2 (.slice (some ⟨vb, 0, none⟩) 3 3)) (nvp) 3 (.int .i64 sd)
        clear c0 c1 c2 c3 fz zp
        refine hK.out _ _ (HMK.out _ kz) (fun hHeld => ?_)
        clear hK K
        try go_frame
        refine wpAnyH_done (by kernel_rfl) ?_ _
        go_wp2
        go_meet
        exact ⟨P, vb, _, rfl, hq, hv, nvp, hPw, kz⟩
      · go_simp
        have lv := (hv.lt vb rfl).2
        have bp : Below wv.heap.size wv (wv.alloc (.cells #[.string ⟨#[]⟩, .int .i64 0, .slice none 0 0, .int .i64 0] 37)) := (Below.refl _ _).alloc (Nat.le_refl _) _
        have hp := Box4.new wv 37 (.string ⟨#[]⟩) (.int .i64 0) (.slice none 0 0) (.int .i64 0)
        have k0vp : Below W0.heap.size W0 (wv.alloc (.cells #[.string ⟨#[]⟩, .int .i64 0, .slice none 0 0, .int .i64 0] 37)) := k0v.trans (bp.mono k0v.size)
        have hv := row_keep hv bp
        have nvp : vb ≠ wv.heap.size := by omega
        clear lv
        have hPw : W0.heap.size ≤ wv.heap.size := k0v.size
        generalize wv.alloc (.cells #[.string ⟨#[]⟩, .int .i64 0, .slice none 0 0, .int .i64 0] 37) = wp at hp k0vp bp hv ⊢
        generalize wv.heap.size = P at hp hPw nvp ⊢
        clear bp
        refine hK.out _ _ (HMK.out _ k0vp) (fun hHeld => ?_)
        clear hK K
        try go_frame
        refine wpAnyH_ready (rs := [2]) (by kernel_rfl) (by simp) ?_
        refine consL rfl (fun K hK => ?_) AllReadyH.nil
        go_simp
        refine (CE.out _).mono ?_
        rintro e we ⟨rfl, be⟩
        have k0vpe : Below W0.heap.size W0 we := k0vp.trans (be.mono k0vp.size)
        have hv := row_keep hv be
        have hp := hp.keep be
        clear be
        go_wp2_with fail
        refine hK.out _ _ (HMK.out _ k0vpe) (fun hHeld => ?_)
        clear hK K
        try go_frame
        refine wpAnyH_takeL (i := 8) (v := ?_) rfl (by kernel_rfl) (by kernel_rfl) (by kernel_rfl) (fun _ _ _ h => h) (Or.inl ⟨by rfl, ?_⟩) hHeld ?_
        rotate_left
        · (intro w hSw; (try dsimp only at hSw); go_simp; try with_reducible rfl)
        try go_frame
        refine wpAnyH_ready (rs := [10]) (by kernel_rfl) (by simp) ?_
        refine consL rfl (fun K hK => ?_) AllReadyH.nil
        have c0 := hp.c0
        have c1 := hp.c1
        have c2 := hp.c2
        have c3 := hp.c3
        have fz := hp.fz
        have zp := hp.lt
        go_simp
        have kz := (((k0vpe.setCell (p := ⟨P, 0, none⟩) hPw (.string lg)).setCell (p := ⟨P, 1, none⟩) hPw (.int .i64 sf)).setCell (p := ⟨P, 2, none⟩) hPw (.slice (some ⟨vb, 0, none⟩) 3 3)).setCell (p := ⟨P, 3, none⟩) hPw (.int .i64 sd)
        have hq := (((hp.set0 (.string lg)).set1 (.int .i64 sf)).set2 (.slice (some ⟨vb, 0, none⟩) 3 3)).set3 (.int .i64 sd)
        have hv := row_set (row_set (row_set (row_set hv (nvp) 0 (.string lg)) (nvp) 1 (.int .i64 sf)) (nvp) 2 (.slice (some ⟨vb, 0, none⟩) 3 3)) (nvp) 3 (.int .i64 sd)
        clear c0 c1 c2 c3 fz zp
        refine hK.out _ _ (HMK.out _ kz) (fun hHeld => ?_)
        clear hK K
        try go_frame
        refine wpAnyH_done (by kernel_rfl) ?_ _
        go_wp2
        go_meet
        exact ⟨P, vb, _, rfl, hq, hv, nvp, hPw, kz⟩
    · go_simp
      have bp : Below wd.heap.size wd (wd.alloc (.cells #[.string ⟨#[]⟩, .int .i64 0, .slice none 0 0, .int .i64 0] 37)) := (Below.refl _ _).alloc (Nat.le_refl _) _
      have hp := Box4.new wd 37 (.string ⟨#[]⟩) (.int .i64 0) (.slice none 0 0) (.int .i64 0)
      have k0p : Below W0.heap.size W0 (wd.alloc (.cells #[.string ⟨#[]⟩, .int .i64 0, .slice none 0 0, .int .i64 0] 37)) := k0.trans (bp.mono k0.size)
      have hPw : W0.heap.size ≤ wd.heap.size := k0.size
      generalize wd.alloc (.cells #[.string ⟨#[]⟩, .int .i64 0, .slice none 0 0, .int .i64 0] 37) = wp at hp k0p bp  ⊢
      generalize wd.heap.size = P at hp hPw  ⊢
      clear bp
      refine hK.out _ _ (HMK.out _ k0p) (fun hHeld => ?_)
      clear hK K
      try go_frame
      refine wpAnyH_ready (rs := [2, 5]) (by kernel_rfl) (by simp) ?_
      refine consL rfl (fun K hK => ?_) (consL rfl (fun K hK => ?_) AllReadyH.nil)
      · go_simp
        refine (CE.out _).mono ?_
        rintro e we ⟨rfl, be⟩
        have k0pe : Below W0.heap.size W0 we := k0p.trans (be.mono k0p.size)
        have hp := hp.keep be
        clear be
        go_wp2_with fail
        refine hK.out _ _ (HMK.out _ k0pe) (fun hHeld => ?_)
        clear hK K
        try go_frame
        refine wpAnyH_ready (rs := [5]) (by kernel_rfl) (by simp) ?_
        refine consL rfl (fun K hK => ?_) AllReadyH.nil
        have lp := hp.lt
        refine step_make_full rfl (.const (.int .i64 3)) (.const (.int .i64 3)) 30 rfl W0.heap.size 111 i1 _ 1 Try.underlying30 hi1 hz10 hz11 .i64 .i64 _ _ 3 rfl rfl (by simp) (by simp) (by rw [hz12]; omega) (by unfold maxLen; omega) k0pe.size ?_
        intro wv hov hgv
        have bv : Below we.heap.size we wv := (Below.refl _ _).grown hgv (Nat.le_refl _) (by simp)
        have k0pev : Below W0.heap.size W0 wv := k0pe.trans (bv.mono k0pe.size)
        have hp := hp.keep bv
        have npv : P ≠ we.heap.size := by omega
        clear lp
        generalize we.heap.size = vb at hov npv ⊢
        have hv : wv.ownsRow W0.heap.size 111 1 (.slice (some ⟨vb, 0, none⟩) 3 3) 3 _ := hov
        clear hov hgv bv
        refine hK.out _ _ (HMK.out _ k0pev) (fun hHeld => ?_)
        clear hK K
        try go_frame
        refine wpAnyH_takeL (i := 8) (v := ?_) rfl (by kernel_rfl) (by kernel_rfl) (by kernel_rfl) (fun _ _ _ h => h) (Or.inl ⟨by rfl, ?_⟩) hHeld ?_
        rotate_left
        · (intro w hSw; (try dsimp only at hSw); go_simp; try with_reducible rfl)
        try go_frame
        refine wpAnyH_ready (rs := [10]) (by kernel_rfl) (by simp) ?_
        refine consL rfl (fun K hK => ?_) AllReadyH.nil
        have c0 := hp.c0
        have c1 := hp.c1
        have c2 := hp.c2
        have c3 := hp.c3
        have fz := hp.fz
        have zp := hp.lt
        go_simp
        have kz := (((k0pev.setCell (p := ⟨P, 0, none⟩) hPw (.string lg)).setCell (p := ⟨P, 1, none⟩) hPw (.int .i64 sf)).setCell (p := ⟨P, 2, none⟩) hPw (.slice (some ⟨vb, 0, none⟩) 3 3)).setCell (p := ⟨P, 3, none⟩) hPw (.int .i64 sd)
        have hq := (((hp.set0 (.string lg)).set1 (.int .i64 sf)).set2 (.slice (some ⟨vb, 0, none⟩) 3 3)).set3 (.int .i64 sd)
        have hv := row_set (row_set (row_set (row_set hv (npv.symm) 0 (.string lg)) (npv.symm) 1 (.int .i64 sf)) (npv.symm) 2 (.slice (some ⟨vb, 0, none⟩) 3 3)) (npv.symm) 3 (.int .i64 sd)
        clear c0 c1 c2 c3 fz zp
        refine hK.out _ _ (HMK.out _ kz) (fun hHeld => ?_)
        clear hK K
        try go_frame
        refine wpAnyH_done (by kernel_rfl) ?_ _
        go_wp2
        go_meet
        exact ⟨P, vb, _, rfl, hq, hv, npv.symm, hPw, kz⟩
      · have lp := hp.lt
        refine step_make_full rfl (.const (.int .i64 3)) (.const (.int .i64 3)) 30 rfl W0.heap.size 111 i1 _ 1 Try.underlying30 hi1 hz10 hz11 .i64 .i64 _ _ 3 rfl rfl (by simp) (by simp) (by rw [hz12]; omega) (by unfold maxLen; omega) k0p.size ?_
        intro wv hov hgv
        have bv : Below wp.heap.size wp wv := (Below.refl _ _).grown hgv (Nat.le_refl _) (by simp)
        have k0pv : Below W0.heap.size W0 wv := k0p.trans (bv.mono k0p.size)
        have hp := hp.keep bv
        have npv : P ≠ wp.heap.size := by omega
        clear lp
        generalize wp.heap.size = vb at hov npv ⊢
        have hv : wv.ownsRow W0.heap.size 111 1 (.slice (some ⟨vb, 0, none⟩) 3 3) 3 _ := hov
        clear hov hgv bv
        refine hK.out _ _ (HMK.out _ k0pv) (fun hHeld => ?_)
        clear hK K
        try go_frame
        refine wpAnyH_ready (rs := [2]) (by kernel_rfl) (by simp) ?_
        refine consL rfl (fun K hK => ?_) AllReadyH.nil
        go_simp
        refine (CE.out _).mono ?_
        rintro e we ⟨rfl, be⟩
        have k0pve : Below W0.heap.size W0 we := k0pv.trans (be.mono k0pv.size)
        have hv := row_keep hv be
        have hp := hp.keep be
        clear be
        go_wp2_with fail
        refine hK.out _ _ (HMK.out _ k0pve) (fun hHeld => ?_)
        clear hK K
        try go_frame
        refine wpAnyH_takeL (i := 8) (v := ?_) rfl (by kernel_rfl) (by kernel_rfl) (by kernel_rfl) (fun _ _ _ h => h) (Or.inl ⟨by rfl, ?_⟩) hHeld ?_
        rotate_left
        · (intro w hSw; (try dsimp only at hSw); go_simp; try with_reducible rfl)
        try go_frame
        refine wpAnyH_ready (rs := [10]) (by kernel_rfl) (by simp) ?_
        refine consL rfl (fun K hK => ?_) AllReadyH.nil
        have c0 := hp.c0
        have c1 := hp.c1
        have c2 := hp.c2
        have c3 := hp.c3
        have fz := hp.fz
        have zp := hp.lt
        go_simp
        have kz := (((k0pve.setCell (p := ⟨P, 0, none⟩) hPw (.string lg)).setCell (p := ⟨P, 1, none⟩) hPw (.int .i64 sf)).setCell (p := ⟨P, 2, none⟩) hPw (.slice (some ⟨vb, 0, none⟩) 3 3)).setCell (p := ⟨P, 3, none⟩) hPw (.int .i64 sd)
        have hq := (((hp.set0 (.string lg)).set1 (.int .i64 sf)).set2 (.slice (some ⟨vb, 0, none⟩) 3 3)).set3 (.int .i64 sd)
        have hv := row_set (row_set (row_set (row_set hv (npv.symm) 0 (.string lg)) (npv.symm) 1 (.int .i64 sf)) (npv.symm) 2 (.slice (some ⟨vb, 0, none⟩) 3 3)) (npv.symm) 3 (.int .i64 sd)
        clear c0 c1 c2 c3 fz zp
        refine hK.out _ _ (HMK.out _ kz) (fun hHeld => ?_)
        clear hK K
        try go_frame
        refine wpAnyH_done (by kernel_rfl) ?_ _
        go_wp2
        go_meet
        exact ⟨P, vb, _, rfl, hq, hv, npv.symm, hPw, kz⟩
  case rest =>
    obtain ⟨P, vb, xs, rfl, hbox, hrow, hne, hPw, hbw⟩ := hcut
    have HNE : Hid (vb ≠ P) := hne
    have hvw : W0.heap.size ≤ vb := (hrow.lt vb rfl).1
    have a2' := cell_later hbw x2
    have a3' := cell_later hbw x3
    have a4' := cell_later hbw x4
    have za := World.block_lt_of_cell? _ _ a2'
    simp only at za
    obtain ⟨Z, hZ⟩ : ∃ Z, Z = wc.heap.size := ⟨_, rfl⟩
    have hvZ : vb < Z := by rw [hZ]; exact (hrow.lt vb rfl).2
    have hWZ : W0.heap.size ≤ Z := by rw [hZ]; exact hbw.size
    have hZ0 : Z ≤ wc.heap.size := by omega
    have HB0 : Hid (Box4 wc P (.string lg) (.int .i64 sf) (.slice (some ⟨vb, 0, none⟩) 3 3) (.int .i64 sd) ∧ wc.ownsRow W0.heap.size 111 1 (.slice (some ⟨vb, 0, none⟩) 3 3) 3 xs ∧ Below W0.heap.size W0 wc ∧ Z ≤ wc.heap.size) := ⟨hbox, hrow, hbw, hZ0⟩
    clear k0 HMK CE hbox hrow hbw hne hZ hZ0
    go_wp2
    go_loopw [17] (fun iv wr => ∃ (k : Nat) (xs : List Value), k ≤ 3 ∧ iv = .int .i64 k ∧ Box4 wr P (.string lg) (.int .i64 sf) (.slice (some ⟨vb, 0, none⟩) 3 3) (.int .i64 sd) ∧ wr.ownsRow W0.heap.size 111 1 (.slice (some ⟨vb, 0, none⟩) 3 3) 3 xs ∧ Below W0.heap.size W0 wr ∧ HasR Z wr xs [A, B, C] k ∧ Z ≤ wr.heap.size) (fun iv _ => 3 - (intOf iv).toNat)
    case atStart => exact ⟨0, xs, by omega, rfl, HB0.out.1, HB0.out.2.1, HB0.out.2.2.1, (fun j hj => absurd hj (Nat.not_lt_zero _)), HB0.out.2.2.2⟩
    case round =>
      obtain ⟨k, xs, hk, rfl, hbox, hrow, hbw, hhas, hZ1⟩ := hrel
      have hne := HNE.out
      have HAS : Hid (HasR Z wr xs [A, B, C] k) := hhas
      have HBW : Hid (Below W0.heap.size W0 wr) := hbw
      have HZ : Hid (Z ≤ wr.heap.size) := hZ1
      clear hhas a2' a3' a4' za hZ1
      have k0 : Below wr.heap.size wr wr.drew := (Below.refl _ wr).drew
      have HM5 : Hid (∀ w', Below wr.heap.size wr w' → (w'.cell? ⟨P, 2, none⟩ = some (.slice (some ⟨vb, 0, none⟩) 3 3) ∧ P < w'.heap.size ∧ vb < w'.heap.size)) := fun w' kk => ⟨cell_later kk hbox.c2, Nat.lt_of_lt_of_le hbox.lt kk.size, Nat.lt_of_lt_of_le (hrow.lt vb rfl).2 kk.size⟩
      have HS5 : Hid (∀ w' o u, Below wr.heap.size wr w' → ((w'.setCell ⟨vb, o, none⟩ u).cell? ⟨P, 2, none⟩ = some (.slice (some ⟨vb, 0, none⟩) 3 3) ∧ P < (w'.setCell ⟨vb, o, none⟩ u).heap.size ∧ vb < (w'.setCell ⟨vb, o, none⟩ u).heap.size)) := fun w' o u kk => ⟨(cell_elsewhere u (fun e => hne e.1.symm)).trans (cell_later kk hbox.c2), by simpa [World.setCell] using Nat.lt_of_lt_of_le hbox.lt kk.size, by simpa [World.setCell] using Nat.lt_of_lt_of_le (hrow.lt vb rfl).2 kk.size⟩
      have hcase : k = 0 ∨ k = 1 ∨ k = 2 ∨ k = 3 := by omega
      rcases hcase with rfl | rfl | rfl | rfl
      · have hix := fun w => idxR_0 w a0 a1 a2 n0 c0 n1 c1 n2 c2
        go_wp2_with fail
        refine wp_region_held_drew (S := (fun w' => w'.cell? ⟨P, 2, none⟩ = some (.slice (some ⟨vb, 0, none⟩) 3 3) ∧ P < w'.heap.size ∧ vb < w'.heap.size)) (by kernel_rfl) (HM5.out _ k0) (fun hHeld => ?_)
        refine wpAnyH_takeL (i := 0) (v := ?_) rfl (by kernel_rfl) (by kernel_rfl) (by kernel_rfl) (fun _ _ _ h => h) (Or.inl ⟨by rfl, ?_⟩) hHeld ?_
        rotate_left
        · (intro w hSw; (try dsimp only at hSw); go_simp; try with_reducible rfl)
        try go_frame
        refine wpAnyH_takeL (i := 1) (v := ?_) rfl (by kernel_rfl) (by kernel_rfl) (by kernel_rfl) (fun _ _ _ h => h) (Or.inl ⟨by rfl, ?_⟩) hHeld ?_
        rotate_left
        · (intro w hSw; (try dsimp only at hSw); go_simp; try with_reducible rfl)
        try go_frame
        refine wpAnyH_takeL (i := 2) (v := ?_) rfl (by kernel_rfl) (by kernel_rfl) (by kernel_rfl) (fun _ _ _ h => h) (Or.inl ⟨by rfl, ?_⟩) hHeld ?_
        rotate_left
        · (intro w hSw; (try dsimp only at hSw); go_simp; try with_reducible rfl)
        try go_frame
        refine wpAnyH_takeL (i := 3) (v := ?_) rfl (by kernel_rfl) (by kernel_rfl) (by kernel_rfl) (fun _ _ _ h => h) (Or.inl ⟨by rfl, ?_⟩) hHeld ?_
        rotate_left
        · (intro w hSw; (try dsimp only at hSw); go_simp; try with_reducible rfl)
        try go_frame
        refine wpAnyH_ready (rs := [4]) (by kernel_rfl) (by simp) ?_
        refine consL rfl (fun K hK => ?_) AllReadyH.nil
        go_simp
        refine (CR0.out _ (HBW.out.trans (k0.mono HBW.out.size))).mono ?_
        rintro e w1 ⟨rb, rfl, hrb, br⟩
        have k1 : Below wr.heap.size wr w1 := k0.trans (br.mono k0.size)
        have HRB : Hid (RunsIn Z w1 (some ⟨rb, 0, none⟩) n0 n0 A) := hrb.mono (Nat.le_trans HZ.out k0.size)
        clear br hrb
        go_wp2_with fail
        refine hK.out _ _ (HM5.out _ k1) (fun hHeld => ?_)
        clear hK K
        try go_frame
        refine wpAnyH_takeL (i := 5) (v := ?_) rfl (by kernel_rfl) (by kernel_rfl) (by kernel_rfl) (fun _ _ _ h => h) (Or.inl ⟨by rfl, ?_⟩) hHeld ?_
        rotate_left
        · (intro w hSw; (try dsimp only at hSw); go_simp; try with_reducible rfl)
        try go_frame
        refine wpAnyH_ready (rs := [6]) (by kernel_rfl) (by simp) ?_
        refine consL rfl (fun K hK => ?_) AllReadyH.nil
        have hr1 := row_keep hrow k1
        have c0 : ∃ v, w1.cell? ⟨vb, 0, none⟩ = some v := ⟨_, (hr1.cellAt 0 (by omega)).trans (List.getElem?_eq_getElem (by rw [hr1.1]; omega))⟩
        obtain ⟨v0, c0⟩ := c0
        have f0 := hr1.frozenAt 0
        go_simp
        refine hK.out _ _ (HS5.out _ _ _ k1) (fun hHeld => ?_)
        clear hK K
        try go_frame
        refine wpAnyH_done (by kernel_rfl) ?_ _
        have t0 := (hr1.stored 0 (.slice (some ⟨rb, 0, none⟩) n0 n0)).1
        have hx3 := hr1.1
        have bq := (hbox.keep k1).other (b' := vb) (o := 0) hne (.slice (some ⟨rb, 0, none⟩) n0 n0)
        have kq : Below W0.heap.size W0 (w1.setCell ⟨vb, 0, none⟩ (.slice (some ⟨rb, 0, none⟩) n0 n0)) := (HBW.out.trans (k1.mono HBW.out.size)).setCell (p := ⟨vb, 0, none⟩) hvw _
        have hsm : Same Z w1 (w1.setCell ⟨vb, 0, none⟩ (.slice (some ⟨rb, 0, none⟩) n0 n0)) := Same.of_set _ _ hvZ
        have hz1 : Z ≤ (w1.setCell ⟨vb, 0, none⟩ (.slice (some ⟨rb, 0, none⟩) n0 n0)).heap.size := Nat.le_trans (Nat.le_trans HZ.out k1.size) hsm.1
        have hh1 := hasR_next (x := rb) (n := n0) (B := A) HAS.out hx3 ((Same.of_below k1).trans hsm) (HRB.out.same hsm) rfl
        have HT : Hid (_ ∧ _ ∧ _ ∧ _ ∧ _) := ⟨bq, t0, kq, hh1, hz1⟩
        clear hHeld k0 k1 HM5 HS5 c0 f0 hr1 t0 bq kq hh1 hz1 hsm hbox hrow HRB
        go_wp2
        go_roundw
        case rel => exact ⟨0 + 1, _, by omega, by go_num, HT.out.1, HT.out.2.1, HT.out.2.2.1, HT.out.2.2.2.1, HT.out.2.2.2.2⟩
        case measure => simp [intOf]
      · have hix := fun w => idxR_1 w a0 a1 a2 n0 c0 n1 c1 n2 c2
        go_wp2_with fail
        refine wp_region_held_drew (S := (fun w' => w'.cell? ⟨P, 2, none⟩ = some (.slice (some ⟨vb, 0, none⟩) 3 3) ∧ P < w'.heap.size ∧ vb < w'.heap.size)) (by kernel_rfl) (HM5.out _ k0) (fun hHeld => ?_)
        refine wpAnyH_takeL (i := 0) (v := ?_) rfl (by kernel_rfl) (by kernel_rfl) (by kernel_rfl) (fun _ _ _ h => h) (Or.inl ⟨by rfl, ?_⟩) hHeld ?_
        rotate_left
        · (intro w hSw; (try dsimp only at hSw); go_simp; try with_reducible rfl)
        try go_frame
        refine wpAnyH_takeL (i := 1) (v := ?_) rfl (by kernel_rfl) (by kernel_rfl) (by kernel_rfl) (fun _ _ _ h => h) (Or.inl ⟨by rfl, ?_⟩) hHeld ?_
        rotate_left
        · (intro w hSw; (try dsimp only at hSw); go_simp; try with_reducible rfl)
        try go_frame
        refine wpAnyH_takeL (i := 2) (v := ?_) rfl (by kernel_rfl) (by kernel_rfl) (by kernel_rfl) (fun _ _ _ h => h) (Or.inl ⟨by rfl, ?_⟩) hHeld ?_
        rotate_left
        · (intro w hSw; (try dsimp only at hSw); go_simp; try with_reducible rfl)
        try go_frame
        refine wpAnyH_takeL (i := 3) (v := ?_) rfl (by kernel_rfl) (by kernel_rfl) (by kernel_rfl) (fun _ _ _ h => h) (Or.inl ⟨by rfl, ?_⟩) hHeld ?_
        rotate_left
        · (intro w hSw; (try dsimp only at hSw); go_simp; try with_reducible rfl)
        try go_frame
        refine wpAnyH_ready (rs := [4]) (by kernel_rfl) (by simp) ?_
        refine consL rfl (fun K hK => ?_) AllReadyH.nil
        go_simp
        refine (CR1.out _ (HBW.out.trans (k0.mono HBW.out.size))).mono ?_
        rintro e w1 ⟨rb, rfl, hrb, br⟩
        have k1 : Below wr.heap.size wr w1 := k0.trans (br.mono k0.size)
        have HRB : Hid (RunsIn Z w1 (some ⟨rb, 0, none⟩) n1 n1 B) := hrb.mono (Nat.le_trans HZ.out k0.size)
        clear br hrb
        go_wp2_with fail
        refine hK.out _ _ (HM5.out _ k1) (fun hHeld => ?_)
        clear hK K
        try go_frame
        refine wpAnyH_takeL (i := 5) (v := ?_) rfl (by kernel_rfl) (by kernel_rfl) (by kernel_rfl) (fun _ _ _ h => h) (Or.inl ⟨by rfl, ?_⟩) hHeld ?_
        rotate_left
        · (intro w hSw; (try dsimp only at hSw); go_simp; try with_reducible rfl)
        try go_frame
        refine wpAnyH_ready (rs := [6]) (by kernel_rfl) (by simp) ?_
        refine consL rfl (fun K hK => ?_) AllReadyH.nil
        have hr1 := row_keep hrow k1
        have c0 : ∃ v, w1.cell? ⟨vb, 1, none⟩ = some v := ⟨_, (hr1.cellAt 1 (by omega)).trans (List.getElem?_eq_getElem (by rw [hr1.1]; omega))⟩
        obtain ⟨v0, c0⟩ := c0
        have f0 := hr1.frozenAt 1
        go_simp
        refine hK.out _ _ (HS5.out _ _ _ k1) (fun hHeld => ?_)
        clear hK K
        try go_frame
        refine wpAnyH_done (by kernel_rfl) ?_ _
        have t0 := (hr1.stored 1 (.slice (some ⟨rb, 0, none⟩) n1 n1)).1
        have hx3 := hr1.1
        have bq := (hbox.keep k1).other (b' := vb) (o := 1) hne (.slice (some ⟨rb, 0, none⟩) n1 n1)
        have kq : Below W0.heap.size W0 (w1.setCell ⟨vb, 1, none⟩ (.slice (some ⟨rb, 0, none⟩) n1 n1)) := (HBW.out.trans (k1.mono HBW.out.size)).setCell (p := ⟨vb, 1, none⟩) hvw _
        have hsm : Same Z w1 (w1.setCell ⟨vb, 1, none⟩ (.slice (some ⟨rb, 0, none⟩) n1 n1)) := Same.of_set _ _ hvZ
        have hz1 : Z ≤ (w1.setCell ⟨vb, 1, none⟩ (.slice (some ⟨rb, 0, none⟩) n1 n1)).heap.size := Nat.le_trans (Nat.le_trans HZ.out k1.size) hsm.1
        have hh1 := hasR_next (x := rb) (n := n1) (B := B) HAS.out hx3 ((Same.of_below k1).trans hsm) (HRB.out.same hsm) rfl
        have HT : Hid (_ ∧ _ ∧ _ ∧ _ ∧ _) := ⟨bq, t0, kq, hh1, hz1⟩
        clear hHeld k0 k1 HM5 HS5 c0 f0 hr1 t0 bq kq hh1 hz1 hsm hbox hrow HRB
        go_wp2
        go_roundw
        case rel => exact ⟨1 + 1, _, by omega, by go_num, HT.out.1, HT.out.2.1, HT.out.2.2.1, HT.out.2.2.2.1, HT.out.2.2.2.2⟩
        case measure => simp [intOf]
      · have hix := fun w => idxR_2 w a0 a1 a2 n0 c0 n1 c1 n2 c2
        go_wp2_with fail
        refine wp_region_held_drew (S := (fun w' => w'.cell? ⟨P, 2, none⟩ = some (.slice (some ⟨vb, 0, none⟩) 3 3) ∧ P < w'.heap.size ∧ vb < w'.heap.size)) (by kernel_rfl) (HM5.out _ k0) (fun hHeld => ?_)
        refine wpAnyH_takeL (i := 0) (v := ?_) rfl (by kernel_rfl) (by kernel_rfl) (by kernel_rfl) (fun _ _ _ h => h) (Or.inl ⟨by rfl, ?_⟩) hHeld ?_
        rotate_left
        · (intro w hSw; (try dsimp only at hSw); go_simp; try with_reducible rfl)
        try go_frame
        refine wpAnyH_takeL (i := 1) (v := ?_) rfl (by kernel_rfl) (by kernel_rfl) (by kernel_rfl) (fun _ _ _ h => h) (Or.inl ⟨by rfl, ?_⟩) hHeld ?_
        rotate_left
        · (intro w hSw; (try dsimp only at hSw); go_simp; try with_reducible rfl)
        try go_frame
        refine wpAnyH_takeL (i := 2) (v := ?_) rfl (by kernel_rfl) (by kernel_rfl) (by kernel_rfl) (fun _ _ _ h => h) (Or.inl ⟨by rfl, ?_⟩) hHeld ?_
        rotate_left
        · (intro w hSw; (try dsimp only at hSw); go_simp; try with_reducible rfl)
        try go_frame
        refine wpAnyH_takeL (i := 3) (v := ?_) rfl (by kernel_rfl) (by kernel_rfl) (by kernel_rfl) (fun _ _ _ h => h) (Or.inl ⟨by rfl, ?_⟩) hHeld ?_
        rotate_left
        · (intro w hSw; (try dsimp only at hSw); go_simp; try with_reducible rfl)
        try go_frame
        refine wpAnyH_ready (rs := [4]) (by kernel_rfl) (by simp) ?_
        refine consL rfl (fun K hK => ?_) AllReadyH.nil
        go_simp
        refine (CR2.out _ (HBW.out.trans (k0.mono HBW.out.size))).mono ?_
        rintro e w1 ⟨rb, rfl, hrb, br⟩
        have k1 : Below wr.heap.size wr w1 := k0.trans (br.mono k0.size)
        have HRB : Hid (RunsIn Z w1 (some ⟨rb, 0, none⟩) n2 n2 C) := hrb.mono (Nat.le_trans HZ.out k0.size)
        clear br hrb
        go_wp2_with fail
        refine hK.out _ _ (HM5.out _ k1) (fun hHeld => ?_)
        clear hK K
        try go_frame
        refine wpAnyH_takeL (i := 5) (v := ?_) rfl (by kernel_rfl) (by kernel_rfl) (by kernel_rfl) (fun _ _ _ h => h) (Or.inl ⟨by rfl, ?_⟩) hHeld ?_
        rotate_left
        · (intro w hSw; (try dsimp only at hSw); go_simp; try with_reducible rfl)
        try go_frame
        refine wpAnyH_ready (rs := [6]) (by kernel_rfl) (by simp) ?_
        refine consL rfl (fun K hK => ?_) AllReadyH.nil
        have hr1 := row_keep hrow k1
        have c0 : ∃ v, w1.cell? ⟨vb, 2, none⟩ = some v := ⟨_, (hr1.cellAt 2 (by omega)).trans (List.getElem?_eq_getElem (by rw [hr1.1]; omega))⟩
        obtain ⟨v0, c0⟩ := c0
        have f0 := hr1.frozenAt 2
        go_simp
        refine hK.out _ _ (HS5.out _ _ _ k1) (fun hHeld => ?_)
        clear hK K
        try go_frame
        refine wpAnyH_done (by kernel_rfl) ?_ _
        have t0 := (hr1.stored 2 (.slice (some ⟨rb, 0, none⟩) n2 n2)).1
        have hx3 := hr1.1
        have bq := (hbox.keep k1).other (b' := vb) (o := 2) hne (.slice (some ⟨rb, 0, none⟩) n2 n2)
        have kq : Below W0.heap.size W0 (w1.setCell ⟨vb, 2, none⟩ (.slice (some ⟨rb, 0, none⟩) n2 n2)) := (HBW.out.trans (k1.mono HBW.out.size)).setCell (p := ⟨vb, 2, none⟩) hvw _
        have hsm : Same Z w1 (w1.setCell ⟨vb, 2, none⟩ (.slice (some ⟨rb, 0, none⟩) n2 n2)) := Same.of_set _ _ hvZ
        have hz1 : Z ≤ (w1.setCell ⟨vb, 2, none⟩ (.slice (some ⟨rb, 0, none⟩) n2 n2)).heap.size := Nat.le_trans (Nat.le_trans HZ.out k1.size) hsm.1
        have hh1 := hasR_next (x := rb) (n := n2) (B := C) HAS.out hx3 ((Same.of_below k1).trans hsm) (HRB.out.same hsm) rfl
        have HT : Hid (_ ∧ _ ∧ _ ∧ _ ∧ _) := ⟨bq, t0, kq, hh1, hz1⟩
        clear hHeld k0 k1 HM5 HS5 c0 f0 hr1 t0 bq kq hh1 hz1 hsm hbox hrow HRB
        go_wp2
        go_roundw
        case rel => exact ⟨2 + 1, _, by omega, by go_num, HT.out.1, HT.out.2.1, HT.out.2.2.1, HT.out.2.2.2.1, HT.out.2.2.2.2⟩
        case measure => simp [intOf]
      · have c0' := hbox.c0
        have c1' := hbox.c1
        have c2' := hbox.c2
        have c3' := hbox.c3
        have zp := hbox.lt
        have bq := BR.out.keep hbw
        have d0 := bq.c0
        have d1 := bq.c1
        have d2 := bq.c2
        have d3 := bq.c3
        have df := bq.fz
        have zd := bq.lt
        have HROW : Hid (wr.ownsRow W0.heap.size 111 1 (.slice (some ⟨vb, 0, none⟩) 3 3) 3 xs) := hrow
        have HBQ : Hid (Box4 wr (X + 1) (.string ⟨#[]⟩) (.int .i64 0) (.slice none 0 0) (.int .i64 0)) := bq
        clear hrow hbox bq HM5 HS5 k0 hbw
        go_wp2
        refine bodyPost_ret (v := .agg #[.string lg, .int .i64 sf, .slice (some ⟨vb, 0, none⟩) 3 3, .int .i64 sd]) ?_ rfl ⟨vb, rfl, ?_, ?_⟩
        · have e := (((HBQ.out.set0 (.string lg)).set1 (.int .i64 sf)).set2 (.slice (some ⟨vb, 0, none⟩) 3 3)).set3 (.int .i64 sd)
          simp [results, Try.results147, go_sem, e.c0, e.c1, e.c2, e.c3]
        · have hsz := HSZ.out
          have hxw := HXW.out
          have hvX : vb ≠ X + 1 := by omega
          have hm : Same Z wr ((((wr.setCell ⟨X + 1, 0, none⟩ (.string lg)).setCell ⟨X + 1, 1, none⟩ (.int .i64 sf)).setCell ⟨X + 1, 2, none⟩ (.slice (some ⟨vb, 0, none⟩) 3 3)).setCell ⟨X + 1, 3, none⟩ (.int .i64 sd)) := (((Same.of_set _ _ (by show X + 1 < _; omega)).trans (Same.of_set _ _ (by show X + 1 < _; omega))).trans (Same.of_set _ _ (by show X + 1 < _; omega))).trans (Same.of_set _ _ (by show X + 1 < _; omega))
          have r4 := row_set (row_set (row_set (row_set HROW.out hvX 0 (.string lg)) hvX 1 (.int .i64 sf)) hvX 2 (.slice (some ⟨vb, 0, none⟩) 3 3)) hvX 3 (.int .i64 sd)
          exact levels_hasR r4 (by omega) (by omega) rfl (HAS.out.same hm)
        · have hx : w.heap.size ≤ X + 1 := by have := HXW.out; omega
          exact ((((KW.out.trans (HBW.out.mono KW.out.size)).setCell (p := ⟨X + 1, 0, none⟩) hx _).setCell (p := ⟨X + 1, 1, none⟩) hx _).setCell (p := ⟨X + 1, 2, none⟩) hx _).setCell (p := ⟨X + 1, 3, none⟩) hx _
end Go.Proofs.Ytkeodfajgpbgaaa
