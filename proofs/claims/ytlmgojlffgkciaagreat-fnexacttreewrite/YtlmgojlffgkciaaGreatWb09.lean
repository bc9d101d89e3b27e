/-
  What the program's asTree and TreeNew make: a tree of nothing, by walks of their Go text.
-/
import Derived.Test.YtlmgojlffgkciaaGreatWb08
import Derived.Test.YtlmgojlffgkciaaGreatWb02
import Derived.Deep.LoopGhost
import Derived.Deep.DeepCutAuto
import Derived.Laws.CopyOwn
namespace Go.Proofs.YtlmgojlffgkciaaGreat
open Go.RowKit

/-- 'make' in a region that draws. -/
theorem step_make_full {P : Program} {ops : Array Oper} {o : Oper} {a : Act} {w : World} {K : Act → World → Prop} {Q : Exit → Act → World → Prop} {E : Prop}
    (hg : o.guard = none) (l c : Operand) (t : TypeId) (hop : o.op = Op.makeSlice t l c)
    (base : Nat) (e : TypeId) (i : TypeInfo) (z : Value) (size : Nat) (h1 : P.underlying t = some (.slice e)) (h2 : P.info? e = some i) (h3 : i.zero = some z) (h4 : i.size = size)
    (kl kc : IntKind) (L C : Int) (n : Nat) (hl : a.eval l = .int kl L) (hc : a.eval c = .int kc C) (hL : L = (n : Int)) (hC : C = (n : Int)) (b2 : i.bytes * n ≤ 281474976710656) (b3 : n ≤ maxLen) (b4 : base ≤ w.heap.size)
    (hK : ∀ w', w'.ownsRow base e size (.slice (some ⟨w.heap.size, 0, none⟩) n n) n (madeCells z.cells (n * size)).toList → w.grownBy w' none → K (a.put o.dst (.slice (some ⟨w.heap.size, 0, none⟩) n n)) w') :
    if Region.wanted o (yielded ops a.tmps) = true then Oper.wp P o a w K Q else E := by
  have hw : Region.wanted o (yielded ops a.tmps) = true := by simp [Region.wanted, hg]
  rw [if_pos hw]
  obtain ⟨w', hrun, r1, r2⟩ := run_make_full (P := P) w base t e i z size h1 h2 h3 h4 kl kc n b2 b3 b4
  subst hL
  subst hC
  unfold Oper.wp
  simp [execOp, hop, hl, hc, hrun, Result.andThen]
  exact hK w' r1 r2
theorem row_keep {w w' : World} {base : Nat} {e : TypeId} {K g n c k : Nat} {xs : List Value} (h : w.ownsRow base e K (.slice (some ⟨g, 0, none⟩) n c) k xs) (hb : Below w.heap.size w w') : w'.ownsRow base e K (.slice (some ⟨g, 0, none⟩) n c) k xs :=
  h.kept (row := none) ⟨hb.os, hb.tape, hb.output, hb.size, fun k hk _ => hb.block k hk⟩ (.inr (by simp [Value.ownBlock]))
theorem row_set {w : World} {base : Nat} {e : TypeId} {K g n c k P : Nat} {xs : List Value} (h : w.ownsRow base e K (.slice (some ⟨g, 0, none⟩) n c) k xs) (hne : g ≠ P) (o : Nat) (u : Value) : (w.setCell ⟨P, o, none⟩ u).ownsRow base e K (.slice (some ⟨g, 0, none⟩) n c) k xs :=
  h.kept (row := some P) ⟨rfl, rfl, rfl, by simp [World.setCell], fun k _ hk => Below.heap_setCell _ _ _ _ (fun e => hk (by rw [e]))⟩ (.inr (by simp [Value.ownBlock]; exact hne))
/-- The first k levels have no runs. -/
def Has0 (xs : List Value) (k : Nat) : Prop := ∀ j, j < k → ∃ b : Nat, xs[j]? = some (.slice (some ⟨b, 0, none⟩) 0 0)
theorem has_next {xs : List Value} {k rb : Nat} (h : Has0 xs k) (hl : xs.length = 3 * 1) (hk : k < 3 := by omega) : Has0 (xs.set k (.slice (some ⟨rb, 0, none⟩) 0 0)) (k + 1) := by
  intro j hj
  by_cases e : j = k
  · subst e
    exact ⟨rb, by rw [List.getElem?_set_self (by omega)]⟩
  · obtain ⟨b, hb⟩ := h j (by omega)
    exact ⟨b, by rw [List.getElem?_set_ne (by omega)]; exact hb⟩
theorem runs_none (lo : Nat) (w : World) (b : Nat) : RunsIn lo w (some ⟨b, 0, none⟩) 0 0 [] := ⟨rfl, Nat.le_refl _, Nat.zero_le _, (fun e => by cases e), (fun x e hp => absurd hp (Nat.lt_irrefl _)), (fun x e i hi => by simp at hi)⟩
theorem ents_none (lo : Nat) (w : World) (a : Option Addr) : EntsIn lo w a 0 0 [] := ⟨⟨rfl, Nat.le_refl _, Nat.zero_le _, by simp, fun _ => rfl, (fun x e hp => absurd hp (Nat.lt_irrefl _)), (fun x e i hi => by simp at hi)⟩, (fun x e hp => absurd hp (Nat.lt_irrefl _))⟩
theorem ints_none (lo : Nat) (w : World) (a : Option Addr) : IntsIn lo w a 0 0 [] := ⟨rfl, Nat.le_refl _, Nat.zero_le _, by simp, fun _ => rfl, (fun x e hp => absurd hp (Nat.lt_irrefl _)), (fun x e i hi => by simp at hi)⟩
theorem levels_none {lo base : Nat} {w : World} {vb : Nat} {xs : List Value} (h : w.ownsRow base 64 1 (.slice (some ⟨vb, 0, none⟩) 3 3) 3 xs) (hb : lo ≤ vb) (h0 : Has0 xs 3) : LevelsIn lo w (some ⟨vb, 0, none⟩) 3 3 [[], [], []] := by
  have hlt := (h.lt vb rfl).2
  refine ⟨rfl, Nat.le_refl _, by unfold maxLen; omega, (fun e => by cases e), (fun x e _ => by cases e; exact ⟨hlt, rfl, hb⟩), ?_⟩
  rintro x e i hi
  cases e
  have hi3 : i < 3 := by simpa using hi
  obtain ⟨b, hbx⟩ := h0 i hi3
  have hall : ([[], [], []] : List (List RunD))[i]'hi = [] := by
    match i, hi3 with
    | 0, _ => rfl
    | 1, _ => rfl
    | 2, _ => rfl
  rw [hall]
  exact ⟨some ⟨b, 0, none⟩, 0, 0, by simp only [Nat.zero_add]; exact (h.cellAt i (by omega)).trans hbx, runs_none _ _ _⟩

set_option maxHeartbeats 400000 in
theorem cloneR_nil (w : World) : Calls Tryz.prog 121 #[.slice none 0 0] w fun e w' => ∃ b : Nat, e = .returned (.slice (some ⟨b, 0, none⟩) 0 0) ∧ Below w.heap.size w w' := by
  obtain ⟨i0, hi, hz0, hz1, hz2⟩ := info_parts Tryz.infoRun
  go_enter Tryz.func121, Tryz.ntmps121
  go_wp2_with (at_make; refine wpList_make_full _ rfl _ _ 64 rfl w.heap.size 102 i0 _ 2 Tryz.underlying64 hi hz0 hz1 .i64 .i64 _ _ 0 rfl rfl (by simp) (by simp) (by rw [hz2]; omega) (by unfold maxLen; omega) (Nat.le_refl _) ?_; intro w1 hown hgrow)
  have hb1 : Hid (Below w.heap.size w w1) := (Below.refl _ _).grown hgrow (Nat.le_refl _) (by simp)
  clear hown hgrow
  go_loopw [11] (fun i wr => i = .int .i64 0 ∧ wr = w1) (fun i _ => 0)
  case atStart => exact ⟨rfl, rfl⟩
  case round =>
    obtain ⟨rfl, rfl⟩ := hrel
    go_wp2
    go_ret
    exact ⟨_, rfl, hb1.out⟩

set_option maxRecDepth 100000 in
theorem idx_nil (w : World) (i : Int) (h0 : 0 ≤ i) (h3 : i < 3) : (Instr.index 65 (.agg #[.slice none 0 0, .slice none 0 0, .slice none 0 0]) (.int .i64 i)).run Tryz.prog w = .ok (.slice none 0 0) w := by
  have hcase : i = 0 ∨ i = 1 ∨ i = 2 := by omega
  rcases hcase with rfl | rfl | rfl <;> simp [Instr.index, run_underlying Tryz.underlying65, asIntOf, go_sem, Tryz.isAgg64, Tryz.sizeOf64, part]
/-- A tree of nothing, in new memory. -/
def NewR (w : World) (e : Ending) (w' : World) : Prop :=
  ∃ eb vb sb : Nat, e = .returned (.agg #[.int .i64 0, .slice (some ⟨eb, 0, none⟩) 0 0, .slice (some ⟨vb, 0, none⟩) 3 3, .slice (some ⟨sb, 0, none⟩) 0 0]) ∧ TreeIn w.heap.size w' (some ⟨eb, 0, none⟩) 0 0 (some ⟨vb, 0, none⟩) 3 3 (some ⟨sb, 0, none⟩) 0 0 [] [[], [], []] [] ∧ Below w.heap.size w w'

set_option maxRecDepth 100000 in
set_option maxHeartbeats 8000000 in
theorem asTree_nil (w : World) : Calls Tryz.prog 79 #[.agg #[.int .i64 0, .slice none 0 0, .slice none 0 0, .slice none 0 0, .slice none 0 0, .slice none 0 0]] w (NewR w) := by
  obtain ⟨X, hX⟩ : ∃ X, X = w.heap.size := ⟨_, rfl⟩
  obtain ⟨W0, hW0⟩ : ∃ W0, W0 = (w.alloc (.cells #[.int .i64 0, .slice none 0 0, .slice none 0 0, .slice none 0 0, .slice none 0 0, .slice none 0 0] 67)).alloc (.cells #[.int .i64 0, .slice none 0 0, .slice none 0 0, .slice none 0 0] 31) := ⟨_, rfl⟩
  have kW : Below w.heap.size w W0 := by rw [hW0]; exact ((Below.refl _ _).alloc (Nat.le_refl _) _).alloc (by simp) _
  have x0 : W0.cell? ⟨X, 0, none⟩ = some (.int .i64 0) := by rw [hW0, hX]; simp
  have x1 : W0.cell? ⟨X, 1, none⟩ = some (.slice none 0 0) := by rw [hW0, hX]; simp
  have x2 : W0.cell? ⟨X, 2, none⟩ = some (.slice none 0 0) := by rw [hW0, hX]; simp
  have x3 : W0.cell? ⟨X, 3, none⟩ = some (.slice none 0 0) := by rw [hW0, hX]; simp
  have x4 : W0.cell? ⟨X, 4, none⟩ = some (.slice none 0 0) := by rw [hW0, hX]; simp
  have x5 : W0.cell? ⟨X, 5, none⟩ = some (.slice none 0 0) := by rw [hW0, hX]; simp
  have br : Box4 W0 (X + 1) (.int .i64 0) (.slice none 0 0) (.slice none 0 0) (.slice none 0 0) := by
    have := Box4.new (w.alloc (.cells #[.int .i64 0, .slice none 0 0, .slice none 0 0, .slice none 0 0, .slice none 0 0, .slice none 0 0] 67)) 31 (.int .i64 0) (.slice none 0 0) (.slice none 0 0) (.slice none 0 0)
    rw [World.size_alloc] at this
    rw [hW0, hX]
    exact this
  have hsz : W0.heap.size = X + 1 + 1 := by rw [hW0, hX]; simp
  have BR : Hid (Box4 W0 (X + 1) (.int .i64 0) (.slice none 0 0) (.slice none 0 0) (.slice none 0 0)) := br
  have HXW : Hid (X = w.heap.size) := hX
  have KW : Hid (Below w.heap.size w W0) := kW
  have CE : Hid (∀ w', Calls Tryz.prog 111 #[.slice none 0 0] w' fun e w'' => ∃ b : Nat, e = .returned (.slice (some ⟨b, 0, none⟩) 0 0) ∧ Below w'.heap.size w' w'') := fun w' => (cloneE_any none 0 0 [] w' (ents_none 0 w' none).1 (by omega) (by simp)).mono (fun e w'' h => ⟨_, h.1, h.2.2.2⟩)
  have CR : Hid (∀ w', Calls Tryz.prog 121 #[.slice none 0 0] w' fun e w'' => ∃ b : Nat, e = .returned (.slice (some ⟨b, 0, none⟩) 0 0) ∧ Below w'.heap.size w' w'') := fun w' => cloneR_nil w'
  have k0 : Below W0.heap.size W0 W0.drew := (Below.refl _ W0).drew
  have HMK : Hid (∀ w', Below W0.heap.size W0 w' → (w'.cell? ⟨X, 0, none⟩ = some (.int .i64 0) ∧ w'.cell? ⟨X, 1, none⟩ = some (.slice none 0 0) ∧ w'.cell? ⟨X, 5, none⟩ = some (.slice none 0 0) ∧ X < w'.heap.size)) := fun w' kk => ⟨cell_later kk x0, cell_later kk x1, cell_later kk x5, World.block_lt_of_cell? _ _ (cell_later kk x0)⟩
  obtain ⟨i1, hi1, hz10, hz11, hz12⟩ := info_parts Tryz.infoRunL
  obtain ⟨i2, hi2, hz20, hz21, hz22⟩ := info_parts Tryz.infoInt
  clear br kW
  go_enter Tryz.func79, Tryz.ntmps79
  go_upto_region 1 with fail
  rw [← hX, ← hW0]
  clear hX hW0
  go_cut [3] (fun s3 wx => ∃ (P eb vb sb : Nat) (xs : List Value), s3 = .pointer (some ⟨P, 0, none⟩) ∧ Box4 wx P (.int .i64 0) (.slice (some ⟨eb, 0, none⟩) 0 0) (.slice (some ⟨vb, 0, none⟩) 3 3) (.slice (some ⟨sb, 0, none⟩) 0 0) ∧ wx.ownsRow W0.heap.size 64 1 (.slice (some ⟨vb, 0, none⟩) 3 3) 3 xs ∧ vb ≠ P ∧ W0.heap.size ≤ P ∧ Below W0.heap.size W0 wx)
  case first =>
    refine wp_region_held_drew (S := (fun w' => w'.cell? ⟨X, 0, none⟩ = some (.int .i64 0) ∧ w'.cell? ⟨X, 1, none⟩ = some (.slice none 0 0) ∧ w'.cell? ⟨X, 5, none⟩ = some (.slice none 0 0) ∧ X < w'.heap.size)) (by kernel_rfl) (HMK.out _ k0) (fun hHeld => ?_)
    generalize W0.drew = wd at k0 hHeld ⊢
    refine wpAnyH_takeL (i := 0) (v := ?_) rfl (by kernel_rfl) (by kernel_rfl) (by kernel_rfl) (fun _ _ _ h => h) (Or.inl ⟨by rfl, ?_⟩) hHeld ?_
    rotate_left
    · (intro w hSw; (try dsimp only at hSw); go_simp; try with_reducible rfl)
    try go_frame
    refine wpAnyH_takeL (i := 1) (v := ?_) rfl (by kernel_rfl) (by kernel_rfl) (by kernel_rfl) (fun _ _ _ h => h) (Or.inl ⟨by rfl, ?_⟩) hHeld ?_
    rotate_left
    · (intro w hSw; (try dsimp only at hSw); go_simp; try with_reducible rfl)
    try go_frame
    refine wpAnyH_takeL (i := 2) (v := ?_) rfl (by kernel_rfl) (by kernel_rfl) (by kernel_rfl) (fun _ _ _ h => h) (Or.inl ⟨by rfl, ?_⟩) hHeld ?_
    rotate_left
    · (intro w hSw; (try dsimp only at hSw); go_simp; try with_reducible rfl)
    try go_frame
    refine wpAnyH_takeL (i := 3) (v := ?_) rfl (by kernel_rfl) (by kernel_rfl) (by kernel_rfl) (fun _ _ _ h => h) (Or.inl ⟨by rfl, ?_⟩) hHeld ?_
    rotate_left
    · (intro w hSw; (try dsimp only at hSw); go_simp; try with_reducible rfl)
    try go_frame
    refine wpAnyH_takeL (i := 6) (v := ?_) rfl (by kernel_rfl) (by kernel_rfl) (by kernel_rfl) (fun _ _ _ h => h) (Or.inl ⟨by rfl, ?_⟩) hHeld ?_
    rotate_left
    · (intro w hSw; (try dsimp only at hSw); go_simp; try with_reducible rfl)
    try go_frame
    refine wpAnyH_takeL (i := 7) (v := ?_) rfl (by kernel_rfl) (by kernel_rfl) (by kernel_rfl) (fun _ _ _ h => h) (Or.inl ⟨by rfl, ?_⟩) hHeld ?_
    rotate_left
    · (intro w hSw; (try dsimp only at hSw); go_simp; try with_reducible rfl)
    try go_frame
    refine wpAnyH_takeL (i := 8) (v := ?_) rfl (by kernel_rfl) (by kernel_rfl) (by kernel_rfl) (fun _ _ _ h => h) (Or.inl ⟨by rfl, ?_⟩) hHeld ?_
    rotate_left
    · (intro w hSw; (try dsimp only at hSw); go_simp; try with_reducible rfl)
    try go_frame
    refine wpAnyH_ready (rs := [4, 5, 9, 11]) (by kernel_rfl) (by simp) ?_
    refine consL rfl (fun K hK => ?_) (consL rfl (fun K hK => ?_) (consL rfl (fun K hK => ?_) (consL rfl (fun K hK => ?_) AllReadyH.nil)))
    · go_simp
      refine (CE.out _).mono ?_
      rintro e we ⟨eb, rfl, be⟩
      have k0e : Below W0.heap.size W0 we := k0.trans (be.mono k0.size)
      clear be
      go_wp2_with fail
      refine hK.out _ _ (HMK.out _ k0e) (fun hHeld => ?_)
      clear hK K
      try go_frame
      refine wpAnyH_ready (rs := [5, 9, 11]) (by kernel_rfl) (by simp) ?_
      refine consL rfl (fun K hK => ?_) (consL rfl (fun K hK => ?_) (consL rfl (fun K hK => ?_) AllReadyH.nil))
      · refine step_make_full rfl (.const (.int .i64 3)) (.const (.int .i64 3)) 29 rfl W0.heap.size 64 i1 _ 1 Tryz.underlying29 hi1 hz10 hz11 .i64 .i64 _ _ 3 rfl rfl (by simp) (by simp) (by rw [hz12]; omega) (by unfold maxLen; omega) k0e.size ?_
        intro wv hov hgv
        have bv : Below we.heap.size we wv := (Below.refl _ _).grown hgv (Nat.le_refl _) (by simp)
        have k0ev : Below W0.heap.size W0 wv := k0e.trans (bv.mono k0e.size)
        generalize we.heap.size = vb at hov ⊢
        have hv : wv.ownsRow W0.heap.size 64 1 (.slice (some ⟨vb, 0, none⟩) 3 3) 3 _ := hov
        clear hov hgv bv
        refine hK.out _ _ (HMK.out _ k0ev) (fun hHeld => ?_)
        clear hK K
        try go_frame
        refine wpAnyH_ready (rs := [9, 11]) (by kernel_rfl) (by simp) ?_
        refine consL rfl (fun K hK => ?_) (consL rfl (fun K hK => ?_) AllReadyH.nil)
        · refine step_make_full rfl (.tmp 14) (.tmp 14) 24 rfl W0.heap.size 3 i2 _ 1 Tryz.underlying24 hi2 hz20 hz21 .i64 .i64 _ _ 0 rfl rfl (by simp) (by simp) (by rw [hz22]; omega) (by unfold maxLen; omega) k0ev.size ?_
          intro ws hos hgs
          have bs : Below wv.heap.size wv ws := (Below.refl _ _).grown hgs (Nat.le_refl _) (by simp)
          have k0evs : Below W0.heap.size W0 ws := k0ev.trans (bs.mono k0ev.size)
          have hv := row_keep hv bs
          generalize wv.heap.size = sb at ⊢
          clear hos hgs bs
          refine hK.out _ _ (HMK.out _ k0evs) (fun hHeld => ?_)
          clear hK K
          try go_frame
          refine wpAnyH_takeL (i := 10) (v := ?_) rfl (by kernel_rfl) (by kernel_rfl) (by kernel_rfl) (fun _ _ _ h => h) (Or.inl ⟨by rfl, ?_⟩) hHeld ?_
          rotate_left
          · (intro w hSw; (try dsimp only at hSw); go_simp; try with_reducible rfl)
          try go_frame
          refine wpAnyH_ready (rs := [11]) (by kernel_rfl) (by simp) ?_
          refine consL rfl (fun K hK => ?_) AllReadyH.nil
          go_simp
          have bp : Below ws.heap.size ws (ws.alloc (.cells #[.int .i64 0, .slice none 0 0, .slice none 0 0, .slice none 0 0] 31)) := (Below.refl _ _).alloc (Nat.le_refl _) _
          have hp := Box4.new ws 31 (.int .i64 0) (.slice none 0 0) (.slice none 0 0) (.slice none 0 0)
          have k0evsp : Below W0.heap.size W0 (ws.alloc (.cells #[.int .i64 0, .slice none 0 0, .slice none 0 0, .slice none 0 0] 31)) := k0evs.trans (bp.mono k0evs.size)
          have hvo := (hv.lt vb rfl).2
          have hv := row_keep hv bp
          have hPw : W0.heap.size ≤ ws.heap.size := k0evs.size
          have hne : vb ≠ ws.heap.size := by have := hvo; omega
          clear hvo
          have hpl := hp.lt
          generalize ws.alloc (.cells #[.int .i64 0, .slice none 0 0, .slice none 0 0, .slice none 0 0] 31) = wp at hp hpl k0evsp bp hv ⊢
          generalize ws.heap.size = P at hp hpl hPw hne ⊢
          clear bp
          refine hK.out _ _ (HMK.out _ k0evsp) (fun hHeld => ?_)
          clear hK K
          try go_frame
          refine wpAnyH_ready (rs := [12]) (by kernel_rfl) (by simp) ?_
          refine consL rfl (fun K hK => ?_) AllReadyH.nil
          have c0 := hp.c0
          have c1 := hp.c1
          have c2 := hp.c2
          have c3 := hp.c3
          have fz := hp.fz
          go_simp
          have kz := (((k0evsp.setCell (p := ⟨P, 0, none⟩) hPw (.int .i64 0)).setCell (p := ⟨P, 1, none⟩) hPw (.slice (some ⟨eb, 0, none⟩) 0 0)).setCell (p := ⟨P, 2, none⟩) hPw (.slice (some ⟨vb, 0, none⟩) 3 3)).setCell (p := ⟨P, 3, none⟩) hPw (.slice (some ⟨sb, 0, none⟩) 0 0)
          have hq := (((hp.set0 (.int .i64 0)).set1 (.slice (some ⟨eb, 0, none⟩) 0 0)).set2 (.slice (some ⟨vb, 0, none⟩) 3 3)).set3 (.slice (some ⟨sb, 0, none⟩) 0 0)
          have hv := row_set (row_set (row_set (row_set hv hne 0 (.int .i64 0)) hne 1 (.slice (some ⟨eb, 0, none⟩) 0 0)) hne 2 (.slice (some ⟨vb, 0, none⟩) 3 3)) hne 3 (.slice (some ⟨sb, 0, none⟩) 0 0)
          clear c0 c1 c2 c3 fz
          refine hK.out _ _ (HMK.out _ kz) (fun hHeld => ?_)
          clear hK K
          try go_frame
          refine wpAnyH_done (by kernel_rfl) ?_ _
          go_wp2
          go_meet
          exact ⟨P, eb, vb, sb, _, rfl, hq, hv, hne, hPw, kz⟩
        · go_simp
          have bp : Below wv.heap.size wv (wv.alloc (.cells #[.int .i64 0, .slice none 0 0, .slice none 0 0, .slice none 0 0] 31)) := (Below.refl _ _).alloc (Nat.le_refl _) _
          have hp := Box4.new wv 31 (.int .i64 0) (.slice none 0 0) (.slice none 0 0) (.slice none 0 0)
          have k0evp : Below W0.heap.size W0 (wv.alloc (.cells #[.int .i64 0, .slice none 0 0, .slice none 0 0, .slice none 0 0] 31)) := k0ev.trans (bp.mono k0ev.size)
          have hvo := (hv.lt vb rfl).2
          have hv := row_keep hv bp
          have hPw : W0.heap.size ≤ wv.heap.size := k0ev.size
          have hne : vb ≠ wv.heap.size := by have := hvo; omega
          clear hvo
          have hpl := hp.lt
          generalize wv.alloc (.cells #[.int .i64 0, .slice none 0 0, .slice none 0 0, .slice none 0 0] 31) = wp at hp hpl k0evp bp hv ⊢
          generalize wv.heap.size = P at hp hpl hPw hne ⊢
          clear bp
          refine hK.out _ _ (HMK.out _ k0evp) (fun hHeld => ?_)
          clear hK K
          try go_frame
          refine wpAnyH_ready (rs := [9]) (by kernel_rfl) (by simp) ?_
          refine consL rfl (fun K hK => ?_) AllReadyH.nil
          refine step_make_full rfl (.tmp 14) (.tmp 14) 24 rfl W0.heap.size 3 i2 _ 1 Tryz.underlying24 hi2 hz20 hz21 .i64 .i64 _ _ 0 rfl rfl (by simp) (by simp) (by rw [hz22]; omega) (by unfold maxLen; omega) k0evp.size ?_
          intro ws hos hgs
          have bs : Below wp.heap.size wp ws := (Below.refl _ _).grown hgs (Nat.le_refl _) (by simp)
          have k0evps : Below W0.heap.size W0 ws := k0evp.trans (bs.mono k0evp.size)
          have hv := row_keep hv bs
          have hp := hp.keep bs
          generalize wp.heap.size = sb at ⊢
          clear hos hgs bs
          refine hK.out _ _ (HMK.out _ k0evps) (fun hHeld => ?_)
          clear hK K
          try go_frame
          refine wpAnyH_takeL (i := 10) (v := ?_) rfl (by kernel_rfl) (by kernel_rfl) (by kernel_rfl) (fun _ _ _ h => h) (Or.inl ⟨by rfl, ?_⟩) hHeld ?_
          rotate_left
          · (intro w hSw; (try dsimp only at hSw); go_simp; try with_reducible rfl)
          try go_frame
          refine wpAnyH_ready (rs := [12]) (by kernel_rfl) (by simp) ?_
          refine consL rfl (fun K hK => ?_) AllReadyH.nil
          have c0 := hp.c0
          have c1 := hp.c1
          have c2 := hp.c2
          have c3 := hp.c3
          have fz := hp.fz
          go_simp
          have kz := (((k0evps.setCell (p := ⟨P, 0, none⟩) hPw (.int .i64 0)).setCell (p := ⟨P, 1, none⟩) hPw (.slice (some ⟨eb, 0, none⟩) 0 0)).setCell (p := ⟨P, 2, none⟩) hPw (.slice (some ⟨vb, 0, none⟩) 3 3)).setCell (p := ⟨P, 3, none⟩) hPw (.slice (some ⟨sb, 0, none⟩) 0 0)
          have hq := (((hp.set0 (.int .i64 0)).set1 (.slice (some ⟨eb, 0, none⟩) 0 0)).set2 (.slice (some ⟨vb, 0, none⟩) 3 3)).set3 (.slice (some ⟨sb, 0, none⟩) 0 0)
          have hv := row_set (row_set (row_set (row_set hv hne 0 (.int .i64 0)) hne 1 (.slice (some ⟨eb, 0, none⟩) 0 0)) hne 2 (.slice (some ⟨vb, 0, none⟩) 3 3)) hne 3 (.slice (some ⟨sb, 0, none⟩) 0 0)
          clear c0 c1 c2 c3 fz
          refine hK.out _ _ (HMK.out _ kz) (fun hHeld => ?_)
          clear hK K
          try go_frame
          refine wpAnyH_done (by kernel_rfl) ?_ _
          go_wp2
          go_meet
          exact ⟨P, eb, vb, sb, _, rfl, hq, hv, hne, hPw, kz⟩
      · refine step_make_full rfl (.tmp 14) (.tmp 14) 24 rfl W0.heap.size 3 i2 _ 1 Tryz.underlying24 hi2 hz20 hz21 .i64 .i64 _ _ 0 rfl rfl (by simp) (by simp) (by rw [hz22]; omega) (by unfold maxLen; omega) k0e.size ?_
        intro ws hos hgs
        have bs : Below we.heap.size we ws := (Below.refl _ _).grown hgs (Nat.le_refl _) (by simp)
        have k0es : Below W0.heap.size W0 ws := k0e.trans (bs.mono k0e.size)
        generalize we.heap.size = sb at ⊢
        clear hos hgs bs
        refine hK.out _ _ (HMK.out _ k0es) (fun hHeld => ?_)
        clear hK K
        try go_frame
        refine wpAnyH_ready (rs := [5, 11]) (by kernel_rfl) (by simp) ?_
        refine consL rfl (fun K hK => ?_) (consL rfl (fun K hK => ?_) AllReadyH.nil)
        · refine step_make_full rfl (.const (.int .i64 3)) (.const (.int .i64 3)) 29 rfl W0.heap.size 64 i1 _ 1 Tryz.underlying29 hi1 hz10 hz11 .i64 .i64 _ _ 3 rfl rfl (by simp) (by simp) (by rw [hz12]; omega) (by unfold maxLen; omega) k0es.size ?_
          intro wv hov hgv
          have bv : Below ws.heap.size ws wv := (Below.refl _ _).grown hgv (Nat.le_refl _) (by simp)
          have k0esv : Below W0.heap.size W0 wv := k0es.trans (bv.mono k0es.size)
          generalize ws.heap.size = vb at hov ⊢
          have hv : wv.ownsRow W0.heap.size 64 1 (.slice (some ⟨vb, 0, none⟩) 3 3) 3 _ := hov
          clear hov hgv bv
          refine hK.out _ _ (HMK.out _ k0esv) (fun hHeld => ?_)
          clear hK K
          try go_frame
          refine wpAnyH_takeL (i := 10) (v := ?_) rfl (by kernel_rfl) (by kernel_rfl) (by kernel_rfl) (fun _ _ _ h => h) (Or.inl ⟨by rfl, ?_⟩) hHeld ?_
          rotate_left
          · (intro w hSw; (try dsimp only at hSw); go_simp; try with_reducible rfl)
          try go_frame
          refine wpAnyH_ready (rs := [11]) (by kernel_rfl) (by simp) ?_
          refine consL rfl (fun K hK => ?_) AllReadyH.nil
          go_simp
          have bp : Below wv.heap.size wv (wv.alloc (.cells #[.int .i64 0, .slice none 0 0, .slice none 0 0, .slice none 0 0] 31)) := (Below.refl _ _).alloc (Nat.le_refl _) _
          have hp := Box4.new wv 31 (.int .i64 0) (.slice none 0 0) (.slice none 0 0) (.slice none 0 0)
          have k0esvp : Below W0.heap.size W0 (wv.alloc (.cells #[.int .i64 0, .slice none 0 0, .slice none 0 0, .slice none 0 0] 31)) := k0esv.trans (bp.mono k0esv.size)
          have hvo := (hv.lt vb rfl).2
          have hv := row_keep hv bp
          have hPw : W0.heap.size ≤ wv.heap.size := k0esv.size
          have hne : vb ≠ wv.heap.size := by have := hvo; omega
          clear hvo
          have hpl := hp.lt
          generalize wv.alloc (.cells #[.int .i64 0, .slice none 0 0, .slice none 0 0, .slice none 0 0] 31) = wp at hp hpl k0esvp bp hv ⊢
          generalize wv.heap.size = P at hp hpl hPw hne ⊢
          clear bp
          refine hK.out _ _ (HMK.out _ k0esvp) (fun hHeld => ?_)
          clear hK K
          try go_frame
          refine wpAnyH_ready (rs := [12]) (by kernel_rfl) (by simp) ?_
          refine consL rfl (fun K hK => ?_) AllReadyH.nil
          have c0 := hp.c0
          have c1 := hp.c1
          have c2 := hp.c2
          have c3 := hp.c3
          have fz := hp.fz
          go_simp
          have kz := (((k0esvp.setCell (p := ⟨P, 0, none⟩) hPw (.int .i64 0)).setCell (p := ⟨P, 1, none⟩) hPw (.slice (some ⟨eb, 0, none⟩) 0 0)).setCell (p := ⟨P, 2, none⟩) hPw (.slice (some ⟨vb, 0, none⟩) 3 3)).setCell (p := ⟨P, 3, none⟩) hPw (.slice (some ⟨sb, 0, none⟩) 0 0)
          have hq := (((hp.set0 (.int .i64 0)).set1 (.slice (some ⟨eb, 0, none⟩) 0 0)).set2 (.slice (some ⟨vb, 0, none⟩) 3 3)).set3 (.slice (some ⟨sb, 0, none⟩) 0 0)
          have hv := row_set (row_set (row_set (row_set hv hne 0 (.int .i64 0)) hne 1 (.slice (some ⟨eb, 0, none⟩) 0 0)) hne 2 (.slice (some ⟨vb, 0, none⟩) 3 3)) hne 3 (.slice (some ⟨sb, 0, none⟩) 0 0)
          clear c0 c1 c2 c3 fz
          refine hK.out _ _ (HMK.out _ kz) (fun hHeld => ?_)
          clear hK K
          try go_frame
          refine wpAnyH_done (by kernel_rfl) ?_ _
          go_wp2
          go_meet
          exact ⟨P, eb, vb, sb, _, rfl, hq, hv, hne, hPw, kz⟩
        · go_simp
          have bp : Below ws.heap.size ws (ws.alloc (.cells #[.int .i64 0, .slice none 0 0, .slice none 0 0, .slice none 0 0] 31)) := (Below.refl _ _).alloc (Nat.le_refl _) _
          have hp := Box4.new ws 31 (.int .i64 0) (.slice none 0 0) (.slice none 0 0) (.slice none 0 0)
          have k0esp : Below W0.heap.size W0 (ws.alloc (.cells #[.int .i64 0, .slice none 0 0, .slice none 0 0, .slice none 0 0] 31)) := k0es.trans (bp.mono k0es.size)
          have hPw : W0.heap.size ≤ ws.heap.size := k0es.size
          have hpl := hp.lt
          generalize ws.alloc (.cells #[.int .i64 0, .slice none 0 0, .slice none 0 0, .slice none 0 0] 31) = wp at hp hpl k0esp bp ⊢
          generalize ws.heap.size = P at hp hpl hPw ⊢
          clear bp
          refine hK.out _ _ (HMK.out _ k0esp) (fun hHeld => ?_)
          clear hK K
          try go_frame
          refine wpAnyH_ready (rs := [5]) (by kernel_rfl) (by simp) ?_
          refine consL rfl (fun K hK => ?_) AllReadyH.nil
          refine step_make_full rfl (.const (.int .i64 3)) (.const (.int .i64 3)) 29 rfl W0.heap.size 64 i1 _ 1 Tryz.underlying29 hi1 hz10 hz11 .i64 .i64 _ _ 3 rfl rfl (by simp) (by simp) (by rw [hz12]; omega) (by unfold maxLen; omega) k0esp.size ?_
          intro wv hov hgv
          have bv : Below wp.heap.size wp wv := (Below.refl _ _).grown hgv (Nat.le_refl _) (by simp)
          have k0espv : Below W0.heap.size W0 wv := k0esp.trans (bv.mono k0esp.size)
          have hpo := hp.lt
          have hp := hp.keep bv
          have hne : wp.heap.size ≠ P := by have := hpo; omega
          clear hpo
          generalize wp.heap.size = vb at hov hne ⊢
          have hv : wv.ownsRow W0.heap.size 64 1 (.slice (some ⟨vb, 0, none⟩) 3 3) 3 _ := hov
          clear hov hgv bv
          refine hK.out _ _ (HMK.out _ k0espv) (fun hHeld => ?_)
          clear hK K
          try go_frame
          refine wpAnyH_takeL (i := 10) (v := ?_) rfl (by kernel_rfl) (by kernel_rfl) (by kernel_rfl) (fun _ _ _ h => h) (Or.inl ⟨by rfl, ?_⟩) hHeld ?_
          rotate_left
          · (intro w hSw; (try dsimp only at hSw); go_simp; try with_reducible rfl)
          try go_frame
          refine wpAnyH_ready (rs := [12]) (by kernel_rfl) (by simp) ?_
          refine consL rfl (fun K hK => ?_) AllReadyH.nil
          have c0 := hp.c0
          have c1 := hp.c1
          have c2 := hp.c2
          have c3 := hp.c3
          have fz := hp.fz
          go_simp
          have kz := (((k0espv.setCell (p := ⟨P, 0, none⟩) hPw (.int .i64 0)).setCell (p := ⟨P, 1, none⟩) hPw (.slice (some ⟨eb, 0, none⟩) 0 0)).setCell (p := ⟨P, 2, none⟩) hPw (.slice (some ⟨vb, 0, none⟩) 3 3)).setCell (p := ⟨P, 3, none⟩) hPw (.slice (some ⟨sb, 0, none⟩) 0 0)
          have hq := (((hp.set0 (.int .i64 0)).set1 (.slice (some ⟨eb, 0, none⟩) 0 0)).set2 (.slice (some ⟨vb, 0, none⟩) 3 3)).set3 (.slice (some ⟨sb, 0, none⟩) 0 0)
          have hv := row_set (row_set (row_set (row_set hv hne 0 (.int .i64 0)) hne 1 (.slice (some ⟨eb, 0, none⟩) 0 0)) hne 2 (.slice (some ⟨vb, 0, none⟩) 3 3)) hne 3 (.slice (some ⟨sb, 0, none⟩) 0 0)
          clear c0 c1 c2 c3 fz
          refine hK.out _ _ (HMK.out _ kz) (fun hHeld => ?_)
          clear hK K
          try go_frame
          refine wpAnyH_done (by kernel_rfl) ?_ _
          go_wp2
          go_meet
          exact ⟨P, eb, vb, sb, _, rfl, hq, hv, hne, hPw, kz⟩
      · go_simp
        have bp : Below we.heap.size we (we.alloc (.cells #[.int .i64 0, .slice none 0 0, .slice none 0 0, .slice none 0 0] 31)) := (Below.refl _ _).alloc (Nat.le_refl _) _
        have hp := Box4.new we 31 (.int .i64 0) (.slice none 0 0) (.slice none 0 0) (.slice none 0 0)
        have k0ep : Below W0.heap.size W0 (we.alloc (.cells #[.int .i64 0, .slice none 0 0, .slice none 0 0, .slice none 0 0] 31)) := k0e.trans (bp.mono k0e.size)
        have hPw : W0.heap.size ≤ we.heap.size := k0e.size
        have hpl := hp.lt
        generalize we.alloc (.cells #[.int .i64 0, .slice none 0 0, .slice none 0 0, .slice none 0 0] 31) = wp at hp hpl k0ep bp ⊢
        generalize we.heap.size = P at hp hpl hPw ⊢
        clear bp
        refine hK.out _ _ (HMK.out _ k0ep) (fun hHeld => ?_)
        clear hK K
        try go_frame
        refine wpAnyH_ready (rs := [5, 9]) (by kernel_rfl) (by simp) ?_
        refine consL rfl (fun K hK => ?_) (consL rfl (fun K hK => ?_) AllReadyH.nil)
        · refine step_make_full rfl (.const (.int .i64 3)) (.const (.int .i64 3)) 29 rfl W0.heap.size 64 i1 _ 1 Tryz.underlying29 hi1 hz10 hz11 .i64 .i64 _ _ 3 rfl rfl (by simp) (by simp) (by rw [hz12]; omega) (by unfold maxLen; omega) k0ep.size ?_
          intro wv hov hgv
          have bv : Below wp.heap.size wp wv := (Below.refl _ _).grown hgv (Nat.le_refl _) (by simp)
          have k0epv : Below W0.heap.size W0 wv := k0ep.trans (bv.mono k0ep.size)
          have hpo := hp.lt
          have hp := hp.keep bv
          have hne : wp.heap.size ≠ P := by have := hpo; omega
          clear hpo
          generalize wp.heap.size = vb at hov hne ⊢
          have hv : wv.ownsRow W0.heap.size 64 1 (.slice (some ⟨vb, 0, none⟩) 3 3) 3 _ := hov
          clear hov hgv bv
          refine hK.out _ _ (HMK.out _ k0epv) (fun hHeld => ?_)
          clear hK K
          try go_frame
          refine wpAnyH_ready (rs := [9]) (by kernel_rfl) (by simp) ?_
          refine consL rfl (fun K hK => ?_) AllReadyH.nil
          refine step_make_full rfl (.tmp 14) (.tmp 14) 24 rfl W0.heap.size 3 i2 _ 1 Tryz.underlying24 hi2 hz20 hz21 .i64 .i64 _ _ 0 rfl rfl (by simp) (by simp) (by rw [hz22]; omega) (by unfold maxLen; omega) k0epv.size ?_
          intro ws hos hgs
          have bs : Below wv.heap.size wv ws := (Below.refl _ _).grown hgs (Nat.le_refl _) (by simp)
          have k0epvs : Below W0.heap.size W0 ws := k0epv.trans (bs.mono k0epv.size)
          have hv := row_keep hv bs
          have hp := hp.keep bs
          generalize wv.heap.size = sb at ⊢
          clear hos hgs bs
          refine hK.out _ _ (HMK.out _ k0epvs) (fun hHeld => ?_)
          clear hK K
          try go_frame
          refine wpAnyH_takeL (i := 10) (v := ?_) rfl (by kernel_rfl) (by kernel_rfl) (by kernel_rfl) (fun _ _ _ h => h) (Or.inl ⟨by rfl, ?_⟩) hHeld ?_
          rotate_left
          · (intro w hSw; (try dsimp only at hSw); go_simp; try with_reducible rfl)
          try go_frame
          refine wpAnyH_ready (rs := [12]) (by kernel_rfl) (by simp) ?_
          refine consL rfl (fun K hK => ?_) AllReadyH.nil
          have c0 := hp.c0
          have c1 := hp.c1
          have c2 := hp.c2
          have c3 := hp.c3
          have fz := hp.fz
          go_simp
          have kz := (((k0epvs.setCell (p := ⟨P, 0, none⟩) hPw (.int .i64 0)).setCell (p := ⟨P, 1, none⟩) hPw (.slice (some ⟨eb, 0, none⟩) 0 0)).setCell (p := ⟨P, 2, none⟩) hPw (.slice (some ⟨vb, 0, none⟩) 3 3)).setCell (p := ⟨P, 3, none⟩) hPw (.slice (some ⟨sb, 0, none⟩) 0 0)
          have hq := (((hp.set0 (.int .i64 0)).set1 (.slice (some ⟨eb, 0, none⟩) 0 0)).set2 (.slice (some ⟨vb, 0, none⟩) 3 3)).set3 (.slice (some ⟨sb, 0, none⟩) 0 0)
          have hv := row_set (row_set (row_set (row_set hv hne 0 (.int .i64 0)) hne 1 (.slice (some ⟨eb, 0, none⟩) 0 0)) hne 2 (.slice (some ⟨vb, 0, none⟩) 3 3)) hne 3 (.slice (some ⟨sb, 0, none⟩) 0 0)
          clear c0 c1 c2 c3 fz
          refine hK.out _ _ (HMK.out _ kz) (fun hHeld => ?_)
          clear hK K
          try go_frame
          refine wpAnyH_done (by kernel_rfl) ?_ _
          go_wp2
          go_meet
          exact ⟨P, eb, vb, sb, _, rfl, hq, hv, hne, hPw, kz⟩
        · refine step_make_full rfl (.tmp 14) (.tmp 14) 24 rfl W0.heap.size 3 i2 _ 1 Tryz.underlying24 hi2 hz20 hz21 .i64 .i64 _ _ 0 rfl rfl (by simp) (by simp) (by rw [hz22]; omega) (by unfold maxLen; omega) k0ep.size ?_
          intro ws hos hgs
          have bs : Below wp.heap.size wp ws := (Below.refl _ _).grown hgs (Nat.le_refl _) (by simp)
          have k0eps : Below W0.heap.size W0 ws := k0ep.trans (bs.mono k0ep.size)
          have hp := hp.keep bs
          generalize wp.heap.size = sb at ⊢
          clear hos hgs bs
          refine hK.out _ _ (HMK.out _ k0eps) (fun hHeld => ?_)
          clear hK K
          try go_frame
          refine wpAnyH_ready (rs := [5]) (by kernel_rfl) (by simp) ?_
          refine consL rfl (fun K hK => ?_) AllReadyH.nil
          refine step_make_full rfl (.const (.int .i64 3)) (.const (.int .i64 3)) 29 rfl W0.heap.size 64 i1 _ 1 Tryz.underlying29 hi1 hz10 hz11 .i64 .i64 _ _ 3 rfl rfl (by simp) (by simp) (by rw [hz12]; omega) (by unfold maxLen; omega) k0eps.size ?_
          intro wv hov hgv
          have bv : Below ws.heap.size ws wv := (Below.refl _ _).grown hgv (Nat.le_refl _) (by simp)
          have k0epsv : Below W0.heap.size W0 wv := k0eps.trans (bv.mono k0eps.size)
          have hpo := hp.lt
          have hp := hp.keep bv
          have hne : ws.heap.size ≠ P := by have := hpo; omega
          clear hpo
          generalize ws.heap.size = vb at hov hne ⊢
          have hv : wv.ownsRow W0.heap.size 64 1 (.slice (some ⟨vb, 0, none⟩) 3 3) 3 _ := hov
          clear hov hgv bv
          refine hK.out _ _ (HMK.out _ k0epsv) (fun hHeld => ?_)
          clear hK K
          try go_frame
          refine wpAnyH_takeL (i := 10) (v := ?_) rfl (by kernel_rfl) (by kernel_rfl) (by kernel_rfl) (fun _ _ _ h => h) (Or.inl ⟨by rfl, ?_⟩) hHeld ?_
          rotate_left
          · (intro w hSw; (try dsimp only at hSw); go_simp; try with_reducible rfl)
          try go_frame
          refine wpAnyH_ready (rs := [12]) (by kernel_rfl) (by simp) ?_
          refine consL rfl (fun K hK => ?_) AllReadyH.nil
          have c0 := hp.c0
          have c1 := hp.c1
          have c2 := hp.c2
          have c3 := hp.c3
          have fz := hp.fz
          go_simp
          have kz := (((k0epsv.setCell (p := ⟨P, 0, none⟩) hPw (.int .i64 0)).setCell (p := ⟨P, 1, none⟩) hPw (.slice (some ⟨eb, 0, none⟩) 0 0)).setCell (p := ⟨P, 2, none⟩) hPw (.slice (some ⟨vb, 0, none⟩) 3 3)).setCell (p := ⟨P, 3, none⟩) hPw (.slice (some ⟨sb, 0, none⟩) 0 0)
          have hq := (((hp.set0 (.int .i64 0)).set1 (.slice (some ⟨eb, 0, none⟩) 0 0)).set2 (.slice (some ⟨vb, 0, none⟩) 3 3)).set3 (.slice (some ⟨sb, 0, none⟩) 0 0)
          have hv := row_set (row_set (row_set (row_set hv hne 0 (.int .i64 0)) hne 1 (.slice (some ⟨eb, 0, none⟩) 0 0)) hne 2 (.slice (some ⟨vb, 0, none⟩) 3 3)) hne 3 (.slice (some ⟨sb, 0, none⟩) 0 0)
          clear c0 c1 c2 c3 fz
          refine hK.out _ _ (HMK.out _ kz) (fun hHeld => ?_)
          clear hK K
          try go_frame
          refine wpAnyH_done (by kernel_rfl) ?_ _
          go_wp2
          go_meet
          exact ⟨P, eb, vb, sb, _, rfl, hq, hv, hne, hPw, kz⟩
    · refine step_make_full rfl (.const (.int .i64 3)) (.const (.int .i64 3)) 29 rfl W0.heap.size 64 i1 _ 1 Tryz.underlying29 hi1 hz10 hz11 .i64 .i64 _ _ 3 rfl rfl (by simp) (by simp) (by rw [hz12]; omega) (by unfold maxLen; omega) k0.size ?_
      intro wv hov hgv
      have bv : Below wd.heap.size wd wv := (Below.refl _ _).grown hgv (Nat.le_refl _) (by simp)
      have k0v : Below W0.heap.size W0 wv := k0.trans (bv.mono k0.size)
      generalize wd.heap.size = vb at hov ⊢
      have hv : wv.ownsRow W0.heap.size 64 1 (.slice (some ⟨vb, 0, none⟩) 3 3) 3 _ := hov
      clear hov hgv bv
      refine hK.out _ _ (HMK.out _ k0v) (fun hHeld => ?_)
      clear hK K
      try go_frame
      refine wpAnyH_ready (rs := [4, 9, 11]) (by kernel_rfl) (by simp) ?_
      refine consL rfl (fun K hK => ?_) (consL rfl (fun K hK => ?_) (consL rfl (fun K hK => ?_) AllReadyH.nil))
      · go_simp
        refine (CE.out _).mono ?_
        rintro e we ⟨eb, rfl, be⟩
        have k0ve : Below W0.heap.size W0 we := k0v.trans (be.mono k0v.size)
        have hv := row_keep hv be
        clear be
        go_wp2_with fail
        refine hK.out _ _ (HMK.out _ k0ve) (fun hHeld => ?_)
        clear hK K
        try go_frame
        refine wpAnyH_ready (rs := [9, 11]) (by kernel_rfl) (by simp) ?_
        refine consL rfl (fun K hK => ?_) (consL rfl (fun K hK => ?_) AllReadyH.nil)
        · refine step_make_full rfl (.tmp 14) (.tmp 14) 24 rfl W0.heap.size 3 i2 _ 1 Tryz.underlying24 hi2 hz20 hz21 .i64 .i64 _ _ 0 rfl rfl (by simp) (by simp) (by rw [hz22]; omega) (by unfold maxLen; omega) k0ve.size ?_
          intro ws hos hgs
          have bs : Below we.heap.size we ws := (Below.refl _ _).grown hgs (Nat.le_refl _) (by simp)
          have k0ves : Below W0.heap.size W0 ws := k0ve.trans (bs.mono k0ve.size)
          have hv := row_keep hv bs
          generalize we.heap.size = sb at ⊢
          clear hos hgs bs
          refine hK.out _ _ (HMK.out _ k0ves) (fun hHeld => ?_)
          clear hK K
          try go_frame
          refine wpAnyH_takeL (i := 10) (v := ?_) rfl (by kernel_rfl) (by kernel_rfl) (by kernel_rfl) (fun _ _ _ h => h) (Or.inl ⟨by rfl, ?_⟩) hHeld ?_
          rotate_left
          · (intro w hSw; (try dsimp only at hSw); go_simp; try with_reducible rfl)
          try go_frame
          refine wpAnyH_ready (rs := [11]) (by kernel_rfl) (by simp) ?_
          refine consL rfl (fun K hK => ?_) AllReadyH.nil
          go_simp
          have bp : Below ws.heap.size ws (ws.alloc (.cells #[.int .i64 0, .slice none 0 0, .slice none 0 0, .slice none 0 0] 31)) := (Below.refl _ _).alloc (Nat.le_refl _) _
          have hp := Box4.new ws 31 (.int .i64 0) (.slice none 0 0) (.slice none 0 0) (.slice none 0 0)
          have k0vesp : Below W0.heap.size W0 (ws.alloc (.cells #[.int .i64 0, .slice none 0 0, .slice none 0 0, .slice none 0 0] 31)) := k0ves.trans (bp.mono k0ves.size)
          have hvo := (hv.lt vb rfl).2
          have hv := row_keep hv bp
          have hPw : W0.heap.size ≤ ws.heap.size := k0ves.size
          have hne : vb ≠ ws.heap.size := by have := hvo; omega
          clear hvo
          have hpl := hp.lt
          generalize ws.alloc (.cells #[.int .i64 0, .slice none 0 0, .slice none 0 0, .slice none 0 0] 31) = wp at hp hpl k0vesp bp hv ⊢
          generalize ws.heap.size = P at hp hpl hPw hne ⊢
          clear bp
          refine hK.out _ _ (HMK.out _ k0vesp) (fun hHeld => ?_)
          clear hK K
          try go_frame
          refine wpAnyH_ready (rs := [12]) (by kernel_rfl) (by simp) ?_
          refine consL rfl (fun K hK => ?_) AllReadyH.nil
          have c0 := hp.c0
          have c1 := hp.c1
          have c2 := hp.c2
          have c3 := hp.c3
          have fz := hp.fz
          go_simp
          have kz := (((k0vesp.setCell (p := ⟨P, 0, none⟩) hPw (.int .i64 0)).setCell (p := ⟨P, 1, none⟩) hPw (.slice (some ⟨eb, 0, none⟩) 0 0)).setCell (p := ⟨P, 2, none⟩) hPw (.slice (some ⟨vb, 0, none⟩) 3 3)).setCell (p := ⟨P, 3, none⟩) hPw (.slice (some ⟨sb, 0, none⟩) 0 0)
          have hq := (((hp.set0 (.int .i64 0)).set1 (.slice (some ⟨eb, 0, none⟩) 0 0)).set2 (.slice (some ⟨vb, 0, none⟩) 3 3)).set3 (.slice (some ⟨sb, 0, none⟩) 0 0)
          have hv := row_set (row_set (row_set (row_set hv hne 0 (.int .i64 0)) hne 1 (.slice (some ⟨eb, 0, none⟩) 0 0)) hne 2 (.slice (some ⟨vb, 0, none⟩) 3 3)) hne 3 (.slice (some ⟨sb, 0, none⟩) 0 0)
          clear c0 c1 c2 c3 fz
          refine hK.out _ _ (HMK.out _ kz) (fun hHeld => ?_)
          clear hK K
          try go_frame
          refine wpAnyH_done (by kernel_rfl) ?_ _
          go_wp2
          go_meet
          exact ⟨P, eb, vb, sb, _, rfl, hq, hv, hne, hPw, kz⟩
        · go_simp
          have bp : Below we.heap.size we (we.alloc (.cells #[.int .i64 0, .slice none 0 0, .slice none 0 0, .slice none 0 0] 31)) := (Below.refl _ _).alloc (Nat.le_refl _) _
          have hp := Box4.new we 31 (.int .i64 0) (.slice none 0 0) (.slice none 0 0) (.slice none 0 0)
          have k0vep : Below W0.heap.size W0 (we.alloc (.cells #[.int .i64 0, .slice none 0 0, .slice none 0 0, .slice none 0 0] 31)) := k0ve.trans (bp.mono k0ve.size)
          have hvo := (hv.lt vb rfl).2
          have hv := row_keep hv bp
          have hPw : W0.heap.size ≤ we.heap.size := k0ve.size
          have hne : vb ≠ we.heap.size := by have := hvo; omega
          clear hvo
          have hpl := hp.lt
          generalize we.alloc (.cells #[.int .i64 0, .slice none 0 0, .slice none 0 0, .slice none 0 0] 31) = wp at hp hpl k0vep bp hv ⊢
          generalize we.heap.size = P at hp hpl hPw hne ⊢
          clear bp
          refine hK.out _ _ (HMK.out _ k0vep) (fun hHeld => ?_)
          clear hK K
          try go_frame
          refine wpAnyH_ready (rs := [9]) (by kernel_rfl) (by simp) ?_
          refine consL rfl (fun K hK => ?_) AllReadyH.nil
          refine step_make_full rfl (.tmp 14) (.tmp 14) 24 rfl W0.heap.size 3 i2 _ 1 Tryz.underlying24 hi2 hz20 hz21 .i64 .i64 _ _ 0 rfl rfl (by simp) (by simp) (by rw [hz22]; omega) (by unfold maxLen; omega) k0vep.size ?_
          intro ws hos hgs
          have bs : Below wp.heap.size wp ws := (Below.refl _ _).grown hgs (Nat.le_refl _) (by simp)
          have k0veps : Below W0.heap.size W0 ws := k0vep.trans (bs.mono k0vep.size)
          have hv := row_keep hv bs
          have hp := hp.keep bs
          generalize wp.heap.size = sb at ⊢
          clear hos hgs bs
          refine hK.out _ _ (HMK.out _ k0veps) (fun hHeld => ?_)
          clear hK K
          try go_frame
          refine wpAnyH_takeL (i := 10) (v := ?_) rfl (by kernel_rfl) (by kernel_rfl) (by kernel_rfl) (fun _ _ _ h => h) (Or.inl ⟨by rfl, ?_⟩) hHeld ?_
          rotate_left
          · (intro w hSw; (try dsimp only at hSw); go_simp; try with_reducible rfl)
          try go_frame
          refine wpAnyH_ready (rs := [12]) (by kernel_rfl) (by simp) ?_
          refine consL rfl (fun K hK => ?_) AllReadyH.nil
          have c0 := hp.c0
          have c1 := hp.c1
          have c2 := hp.c2
          have c3 := hp.c3
          have fz := hp.fz
          go_simp
          have kz := (((k0veps.setCell (p := ⟨P, 0, none⟩) hPw (.int .i64 0)).setCell (p := ⟨P, 1, none⟩) hPw (.slice (some ⟨eb, 0, none⟩) 0 0)).setCell (p := ⟨P, 2, none⟩) hPw (.slice (some ⟨vb, 0, none⟩) 3 3)).setCell (p := ⟨P, 3, none⟩) hPw (.slice (some ⟨sb, 0, none⟩) 0 0)
          have hq := (((hp.set0 (.int .i64 0)).set1 (.slice (some ⟨eb, 0, none⟩) 0 0)).set2 (.slice (some ⟨vb, 0, none⟩) 3 3)).set3 (.slice (some ⟨sb, 0, none⟩) 0 0)
          have hv := row_set (row_set (row_set (row_set hv hne 0 (.int .i64 0)) hne 1 (.slice (some ⟨eb, 0, none⟩) 0 0)) hne 2 (.slice (some ⟨vb, 0, none⟩) 3 3)) hne 3 (.slice (some ⟨sb, 0, none⟩) 0 0)
          clear c0 c1 c2 c3 fz
          refine hK.out _ _ (HMK.out _ kz) (fun hHeld => ?_)
          clear hK K
          try go_frame
          refine wpAnyH_done (by kernel_rfl) ?_ _
          go_wp2
          go_meet
          exact ⟨P, eb, vb, sb, _, rfl, hq, hv, hne, hPw, kz⟩
      · refine step_make_full rfl (.tmp 14) (.tmp 14) 24 rfl W0.heap.size 3 i2 _ 1 Tryz.underlying24 hi2 hz20 hz21 .i64 .i64 _ _ 0 rfl rfl (by simp) (by simp) (by rw [hz22]; omega) (by unfold maxLen; omega) k0v.size ?_
        intro ws hos hgs
        have bs : Below wv.heap.size wv ws := (Below.refl _ _).grown hgs (Nat.le_refl _) (by simp)
        have k0vs : Below W0.heap.size W0 ws := k0v.trans (bs.mono k0v.size)
        have hv := row_keep hv bs
        generalize wv.heap.size = sb at ⊢
        clear hos hgs bs
        refine hK.out _ _ (HMK.out _ k0vs) (fun hHeld => ?_)
        clear hK K
        try go_frame
        refine wpAnyH_ready (rs := [4, 11]) (by kernel_rfl) (by simp) ?_
        refine consL rfl (fun K hK => ?_) (consL rfl (fun K hK => ?_) AllReadyH.nil)
        · go_simp
          refine (CE.out _).mono ?_
          rintro e we ⟨eb, rfl, be⟩
          have k0vse : Below W0.heap.size W0 we := k0vs.trans (be.mono k0vs.size)
          have hv := row_keep hv be
          clear be
          go_wp2_with fail
          refine hK.out _ _ (HMK.out _ k0vse) (fun hHeld => ?_)
          clear hK K
          try go_frame
          refine wpAnyH_takeL (i := 10) (v := ?_) rfl (by kernel_rfl) (by kernel_rfl) (by kernel_rfl) (fun _ _ _ h => h) (Or.inl ⟨by rfl, ?_⟩) hHeld ?_
          rotate_left
          · (intro w hSw; (try dsimp only at hSw); go_simp; try with_reducible rfl)
          try go_frame
          refine wpAnyH_ready (rs := [11]) (by kernel_rfl) (by simp) ?_
          refine consL rfl (fun K hK => ?_) AllReadyH.nil
          go_simp
          have bp : Below we.heap.size we (we.alloc (.cells #[.int .i64 0, .slice none 0 0, .slice none 0 0, .slice none 0 0] 31)) := (Below.refl _ _).alloc (Nat.le_refl _) _
          have hp := Box4.new we 31 (.int .i64 0) (.slice none 0 0) (.slice none 0 0) (.slice none 0 0)
          have k0vsep : Below W0.heap.size W0 (we.alloc (.cells #[.int .i64 0, .slice none 0 0, .slice none 0 0, .slice none 0 0] 31)) := k0vse.trans (bp.mono k0vse.size)
          have hvo := (hv.lt vb rfl).2
          have hv := row_keep hv bp
          have hPw : W0.heap.size ≤ we.heap.size := k0vse.size
          have hne : vb ≠ we.heap.size := by have := hvo; omega
          clear hvo
          have hpl := hp.lt
          generalize we.alloc (.cells #[.int .i64 0, .slice none 0 0, .slice none 0 0, .slice none 0 0] 31) = wp at hp hpl k0vsep bp hv ⊢
          generalize we.heap.size = P at hp hpl hPw hne ⊢
          clear bp
          refine hK.out _ _ (HMK.out _ k0vsep) (fun hHeld => ?_)
          clear hK K
          try go_frame
          refine wpAnyH_ready (rs := [12]) (by kernel_rfl) (by simp) ?_
          refine consL rfl (fun K hK => ?_) AllReadyH.nil
          have c0 := hp.c0
          have c1 := hp.c1
          have c2 := hp.c2
          have c3 := hp.c3
          have fz := hp.fz
          go_simp
          have kz := (((k0vsep.setCell (p := ⟨P, 0, none⟩) hPw (.int .i64 0)).setCell (p := ⟨P, 1, none⟩) hPw (.slice (some ⟨eb, 0, none⟩) 0 0)).setCell (p := ⟨P, 2, none⟩) hPw (.slice (some ⟨vb, 0, none⟩) 3 3)).setCell (p := ⟨P, 3, none⟩) hPw (.slice (some ⟨sb, 0, none⟩) 0 0)
          have hq := (((hp.set0 (.int .i64 0)).set1 (.slice (some ⟨eb, 0, none⟩) 0 0)).set2 (.slice (some ⟨vb, 0, none⟩) 3 3)).set3 (.slice (some ⟨sb, 0, none⟩) 0 0)
          have hv := row_set (row_set (row_set (row_set hv hne 0 (.int .i64 0)) hne 1 (.slice (some ⟨eb, 0, none⟩) 0 0)) hne 2 (.slice (some ⟨vb, 0, none⟩) 3 3)) hne 3 (.slice (some ⟨sb, 0, none⟩) 0 0)
          clear c0 c1 c2 c3 fz
          refine hK.out _ _ (HMK.out _ kz) (fun hHeld => ?_)
          clear hK K
          try go_frame
          refine wpAnyH_done (by kernel_rfl) ?_ _
          go_wp2
          go_meet
          exact ⟨P, eb, vb, sb, _, rfl, hq, hv, hne, hPw, kz⟩
        · go_simp
          have bp : Below ws.heap.size ws (ws.alloc (.cells #[.int .i64 0, .slice none 0 0, .slice none 0 0, .slice none 0 0] 31)) := (Below.refl _ _).alloc (Nat.le_refl _) _
          have hp := Box4.new ws 31 (.int .i64 0) (.slice none 0 0) (.slice none 0 0) (.slice none 0 0)
          have k0vsp : Below W0.heap.size W0 (ws.alloc (.cells #[.int .i64 0, .slice none 0 0, .slice none 0 0, .slice none 0 0] 31)) := k0vs.trans (bp.mono k0vs.size)
          have hvo := (hv.lt vb rfl).2
          have hv := row_keep hv bp
          have hPw : W0.heap.size ≤ ws.heap.size := k0vs.size
          have hne : vb ≠ ws.heap.size := by have := hvo; omega
          clear hvo
          have hpl := hp.lt
          generalize ws.alloc (.cells #[.int .i64 0, .slice none 0 0, .slice none 0 0, .slice none 0 0] 31) = wp at hp hpl k0vsp bp hv ⊢
          generalize ws.heap.size = P at hp hpl hPw hne ⊢
          clear bp
          refine hK.out _ _ (HMK.out _ k0vsp) (fun hHeld => ?_)
          clear hK K
          try go_frame
          refine wpAnyH_ready (rs := [4]) (by kernel_rfl) (by simp) ?_
          refine consL rfl (fun K hK => ?_) AllReadyH.nil
          go_simp
          refine (CE.out _).mono ?_
          rintro e we ⟨eb, rfl, be⟩
          have k0vspe : Below W0.heap.size W0 we := k0vsp.trans (be.mono k0vsp.size)
          have hv := row_keep hv be
          have hp := hp.keep be
          clear be
          go_wp2_with fail
          refine hK.out _ _ (HMK.out _ k0vspe) (fun hHeld => ?_)
          clear hK K
          try go_frame
          refine wpAnyH_takeL (i := 10) (v := ?_) rfl (by kernel_rfl) (by kernel_rfl) (by kernel_rfl) (fun _ _ _ h => h) (Or.inl ⟨by rfl, ?_⟩) hHeld ?_
          rotate_left
          · (intro w hSw; (try dsimp only at hSw); go_simp; try with_reducible rfl)
          try go_frame
          refine wpAnyH_ready (rs := [12]) (by kernel_rfl) (by simp) ?_
          refine consL rfl (fun K hK => ?_) AllReadyH.nil
          have c0 := hp.c0
          have c1 := hp.c1
          have c2 := hp.c2
          have c3 := hp.c3
          have fz := hp.fz
          go_simp
          have kz := (((k0vspe.setCell (p := ⟨P, 0, none⟩) hPw (.int .i64 0)).setCell (p := ⟨P, 1, none⟩) hPw (.slice (some ⟨eb, 0, none⟩) 0 0)).setCell (p := ⟨P, 2, none⟩) hPw (.slice (some ⟨vb, 0, none⟩) 3 3)).setCell (p := ⟨P, 3, none⟩) hPw (.slice (some ⟨sb, 0, none⟩) 0 0)
          have hq := (((hp.set0 (.int .i64 0)).set1 (.slice (some ⟨eb, 0, none⟩) 0 0)).set2 (.slice (some ⟨vb, 0, none⟩) 3 3)).set3 (.slice (some ⟨sb, 0, none⟩) 0 0)
          have hv := row_set (row_set (row_set (row_set hv hne 0 (.int .i64 0)) hne 1 (.slice (some ⟨eb, 0, none⟩) 0 0)) hne 2 (.slice (some ⟨vb, 0, none⟩) 3 3)) hne 3 (.slice (some ⟨sb, 0, none⟩) 0 0)
          clear c0 c1 c2 c3 fz
          refine hK.out _ _ (HMK.out _ kz) (fun hHeld => ?_)
          clear hK K
          try go_frame
          refine wpAnyH_done (by kernel_rfl) ?_ _
          go_wp2
          go_meet
          exact ⟨P, eb, vb, sb, _, rfl, hq, hv, hne, hPw, kz⟩
      · go_simp
        have bp : Below wv.heap.size wv (wv.alloc (.cells #[.int .i64 0, .slice none 0 0, .slice none 0 0, .slice none 0 0] 31)) := (Below.refl _ _).alloc (Nat.le_refl _) _
        have hp := Box4.new wv 31 (.int .i64 0) (.slice none 0 0) (.slice none 0 0) (.slice none 0 0)
        have k0vp : Below W0.heap.size W0 (wv.alloc (.cells #[.int .i64 0, .slice none 0 0, .slice none 0 0, .slice none 0 0] 31)) := k0v.trans (bp.mono k0v.size)
        have hvo := (hv.lt vb rfl).2
        have hv := row_keep hv bp
        have hPw : W0.heap.size ≤ wv.heap.size := k0v.size
        have hne : vb ≠ wv.heap.size := by have := hvo; omega
        clear hvo
        have hpl := hp.lt
        generalize wv.alloc (.cells #[.int .i64 0, .slice none 0 0, .slice none 0 0, .slice none 0 0] 31) = wp at hp hpl k0vp bp hv ⊢
        generalize wv.heap.size = P at hp hpl hPw hne ⊢
        clear bp
        refine hK.out _ _ (HMK.out _ k0vp) (fun hHeld => ?_)
        clear hK K
        try go_frame
        refine wpAnyH_ready (rs := [4, 9]) (by kernel_rfl) (by simp) ?_
        refine consL rfl (fun K hK => ?_) (consL rfl (fun K hK => ?_) AllReadyH.nil)
        · go_simp
          refine (CE.out _).mono ?_
          rintro e we ⟨eb, rfl, be⟩
          have k0vpe : Below W0.heap.size W0 we := k0vp.trans (be.mono k0vp.size)
          have hv := row_keep hv be
          have hp := hp.keep be
          clear be
          go_wp2_with fail
          refine hK.out _ _ (HMK.out _ k0vpe) (fun hHeld => ?_)
          clear hK K
          try go_frame
          refine wpAnyH_ready (rs := [9]) (by kernel_rfl) (by simp) ?_
          refine consL rfl (fun K hK => ?_) AllReadyH.nil
          refine step_make_full rfl (.tmp 14) (.tmp 14) 24 rfl W0.heap.size 3 i2 _ 1 Tryz.underlying24 hi2 hz20 hz21 .i64 .i64 _ _ 0 rfl rfl (by simp) (by simp) (by rw [hz22]; omega) (by unfold maxLen; omega) k0vpe.size ?_
          intro ws hos hgs
          have bs : Below we.heap.size we ws := (Below.refl _ _).grown hgs (Nat.le_refl _) (by simp)
          have k0vpes : Below W0.heap.size W0 ws := k0vpe.trans (bs.mono k0vpe.size)
          have hv := row_keep hv bs
          have hp := hp.keep bs
          generalize we.heap.size = sb at ⊢
          clear hos hgs bs
          refine hK.out _ _ (HMK.out _ k0vpes) (fun hHeld => ?_)
          clear hK K
          try go_frame
          refine wpAnyH_takeL (i := 10) (v := ?_) rfl (by kernel_rfl) (by kernel_rfl) (by kernel_rfl) (fun _ _ _ h => h) (Or.inl ⟨by rfl, ?_⟩) hHeld ?_
          rotate_left
          · (intro w hSw; (try dsimp only at hSw); go_simp; try with_reducible rfl)
          try go_frame
          refine wpAnyH_ready (rs := [12]) (by kernel_rfl) (by simp) ?_
          refine consL rfl (fun K hK => ?_) AllReadyH.nil
          have c0 := hp.c0
          have c1 := hp.c1
          have c2 := hp.c2
          have c3 := hp.c3
          have fz := hp.fz
          go_simp
          have kz := (((k0vpes.setCell (p := ⟨P, 0, none⟩) hPw (.int .i64 0)).setCell (p := ⟨P, 1, none⟩) hPw (.slice (some ⟨eb, 0, none⟩) 0 0)).setCell (p := ⟨P, 2, none⟩) hPw (.slice (some ⟨vb, 0, none⟩) 3 3)).setCell (p := ⟨P, 3, none⟩) hPw (.slice (some ⟨sb, 0, none⟩) 0 0)
          have hq := (((hp.set0 (.int .i64 0)).set1 (.slice (some ⟨eb, 0, none⟩) 0 0)).set2 (.slice (some ⟨vb, 0, none⟩) 3 3)).set3 (.slice (some ⟨sb, 0, none⟩) 0 0)
          have hv := row_set (row_set (row_set (row_set hv hne 0 (.int .i64 0)) hne 1 (.slice (some ⟨eb, 0, none⟩) 0 0)) hne 2 (.slice (some ⟨vb, 0, none⟩) 3 3)) hne 3 (.slice (some ⟨sb, 0, none⟩) 0 0)
          clear c0 c1 c2 c3 fz
          refine hK.out _ _ (HMK.out _ kz) (fun hHeld => ?_)
          clear hK K
          try go_frame
          refine wpAnyH_done (by kernel_rfl) ?_ _
          go_wp2
          go_meet
          exact ⟨P, eb, vb, sb, _, rfl, hq, hv, hne, hPw, kz⟩
        · refine step_make_full rfl (.tmp 14) (.tmp 14) 24 rfl W0.heap.size 3 i2 _ 1 Tryz.underlying24 hi2 hz20 hz21 .i64 .i64 _ _ 0 rfl rfl (by simp) (by simp) (by rw [hz22]; omega) (by unfold maxLen; omega) k0vp.size ?_
          intro ws hos hgs
          have bs : Below wp.heap.size wp ws := (Below.refl _ _).grown hgs (Nat.le_refl _) (by simp)
          have k0vps : Below W0.heap.size W0 ws := k0vp.trans (bs.mono k0vp.size)
          have hv := row_keep hv bs
          have hp := hp.keep bs
          generalize wp.heap.size = sb at ⊢
          clear hos hgs bs
          refine hK.out _ _ (HMK.out _ k0vps) (fun hHeld => ?_)
          clear hK K
          try go_frame
          refine wpAnyH_ready (rs := [4]) (by kernel_rfl) (by simp) ?_
          refine consL rfl (fun K hK => ?_) AllReadyH.nil
          go_simp
          refine (CE.out _).mono ?_
          rintro e we ⟨eb, rfl, be⟩
          have k0vpse : Below W0.heap.size W0 we := k0vps.trans (be.mono k0vps.size)
          have hv := row_keep hv be
          have hp := hp.keep be
          clear be
          go_wp2_with fail
          refine hK.out _ _ (HMK.out _ k0vpse) (fun hHeld => ?_)
          clear hK K
          try go_frame
          refine wpAnyH_takeL (i := 10) (v := ?_) rfl (by kernel_rfl) (by kernel_rfl) (by kernel_rfl) (fun _ _ _ h => h) (Or.inl ⟨by rfl, ?_⟩) hHeld ?_
          rotate_left
          · (intro w hSw; (try dsimp only at hSw); go_simp; try with_reducible rfl)
          try go_frame
          refine wpAnyH_ready (rs := [12]) (by kernel_rfl) (by simp) ?_
          refine consL rfl (fun K hK => ?_) AllReadyH.nil
          have c0 := hp.c0
          have c1 := hp.c1
          have c2 := hp.c2
          have c3 := hp.c3
          have fz := hp.fz
          go_simp
          have kz := (((k0vpse.setCell (p := ⟨P, 0, none⟩) hPw (.int .i64 0)).setCell (p := ⟨P, 1, none⟩) hPw (.slice (some ⟨eb, 0, none⟩) 0 0)).setCell (p := ⟨P, 2, none⟩) hPw (.slice (some ⟨vb, 0, none⟩) 3 3)).setCell (p := ⟨P, 3, none⟩) hPw (.slice (some ⟨sb, 0, none⟩) 0 0)
          have hq := (((hp.set0 (.int .i64 0)).set1 (.slice (some ⟨eb, 0, none⟩) 0 0)).set2 (.slice (some ⟨vb, 0, none⟩) 3 3)).set3 (.slice (some ⟨sb, 0, none⟩) 0 0)
          have hv := row_set (row_set (row_set (row_set hv hne 0 (.int .i64 0)) hne 1 (.slice (some ⟨eb, 0, none⟩) 0 0)) hne 2 (.slice (some ⟨vb, 0, none⟩) 3 3)) hne 3 (.slice (some ⟨sb, 0, none⟩) 0 0)
          clear c0 c1 c2 c3 fz
          refine hK.out _ _ (HMK.out _ kz) (fun hHeld => ?_)
          clear hK K
          try go_frame
          refine wpAnyH_done (by kernel_rfl) ?_ _
          go_wp2
          go_meet
          exact ⟨P, eb, vb, sb, _, rfl, hq, hv, hne, hPw, kz⟩
    · refine step_make_full rfl (.tmp 14) (.tmp 14) 24 rfl W0.heap.size 3 i2 _ 1 Tryz.underlying24 hi2 hz20 hz21 .i64 .i64 _ _ 0 rfl rfl (by simp) (by simp) (by rw [hz22]; omega) (by unfold maxLen; omega) k0.size ?_
      intro ws hos hgs
      have bs : Below wd.heap.size wd ws := (Below.refl _ _).grown hgs (Nat.le_refl _) (by simp)
      have k0s : Below W0.heap.size W0 ws := k0.trans (bs.mono k0.size)
      generalize wd.heap.size = sb at ⊢
      clear hos hgs bs
      refine hK.out _ _ (HMK.out _ k0s) (fun hHeld => ?_)
      clear hK K
      try go_frame
      refine wpAnyH_ready (rs := [4, 5, 11]) (by kernel_rfl) (by simp) ?_
      refine consL rfl (fun K hK => ?_) (consL rfl (fun K hK => ?_) (consL rfl (fun K hK => ?_) AllReadyH.nil))
      · go_simp
        refine (CE.out _).mono ?_
        rintro e we ⟨eb, rfl, be⟩
        have k0se : Below W0.heap.size W0 we := k0s.trans (be.mono k0s.size)
        clear be
        go_wp2_with fail
        refine hK.out _ _ (HMK.out _ k0se) (fun hHeld => ?_)
        clear hK K
        try go_frame
        refine wpAnyH_ready (rs := [5, 11]) (by kernel_rfl) (by simp) ?_
        refine consL rfl (fun K hK => ?_) (consL rfl (fun K hK => ?_) AllReadyH.nil)
        · refine step_make_full rfl (.const (.int .i64 3)) (.const (.int .i64 3)) 29 rfl W0.heap.size 64 i1 _ 1 Tryz.underlying29 hi1 hz10 hz11 .i64 .i64 _ _ 3 rfl rfl (by simp) (by simp) (by rw [hz12]; omega) (by unfold maxLen; omega) k0se.size ?_
          intro wv hov hgv
          have bv : Below we.heap.size we wv := (Below.refl _ _).grown hgv (Nat.le_refl _) (by simp)
          have k0sev : Below W0.heap.size W0 wv := k0se.trans (bv.mono k0se.size)
          generalize we.heap.size = vb at hov ⊢
          have hv : wv.ownsRow W0.heap.size 64 1 (.slice (some ⟨vb, 0, none⟩) 3 3) 3 _ := hov
          clear hov hgv bv
          refine hK.out _ _ (HMK.out _ k0sev) (fun hHeld => ?_)
          clear hK K
          try go_frame
          refine wpAnyH_takeL (i := 10) (v := ?_) rfl (by kernel_rfl) (by kernel_rfl) (by kernel_rfl) (fun _ _ _ h => h) (Or.inl ⟨by rfl, ?_⟩) hHeld ?_
          rotate_left
          · (intro w hSw; (try dsimp only at hSw); go_simp; try with_reducible rfl)
          try go_frame
          refine wpAnyH_ready (rs := [11]) (by kernel_rfl) (by simp) ?_
          refine consL rfl (fun K hK => ?_) AllReadyH.nil
          go_simp
          have bp : Below wv.heap.size wv (wv.alloc (.cells #[.int .i64 0, .slice none 0 0, .slice none 0 0, .slice none 0 0] 31)) := (Below.refl _ _).alloc (Nat.le_refl _) _
          have hp := Box4.new wv 31 (.int .i64 0) (.slice none 0 0) (.slice none 0 0) (.slice none 0 0)
          have k0sevp : Below W0.heap.size W0 (wv.alloc (.cells #[.int .i64 0, .slice none 0 0, .slice none 0 0, .slice none 0 0] 31)) := k0sev.trans (bp.mono k0sev.size)
          have hvo := (hv.lt vb rfl).2
          have hv := row_keep hv bp
          have hPw : W0.heap.size ≤ wv.heap.size := k0sev.size
          have hne : vb ≠ wv.heap.size := by have := hvo; omega
          clear hvo
          have hpl := hp.lt
          generalize wv.alloc (.cells #[.int .i64 0, .slice none 0 0, .slice none 0 0, .slice none 0 0] 31) = wp at hp hpl k0sevp bp hv ⊢
          generalize wv.heap.size = P at hp hpl hPw hne ⊢
          clear bp
          refine hK.out _ _ (HMK.out _ k0sevp) (fun hHeld => ?_)
          clear hK K
          try go_frame
          refine wpAnyH_ready (rs := [12]) (by kernel_rfl) (by simp) ?_
          refine consL rfl (fun K hK => ?_) AllReadyH.nil
          have c0 := hp.c0
          have c1 := hp.c1
          have c2 := hp.c2
          have c3 := hp.c3
          have fz := hp.fz
          go_simp
          have kz := (((k0sevp.setCell (p := ⟨P, 0, none⟩) hPw (.int .i64 0)).setCell (p := ⟨P, 1, none⟩) hPw (.slice (some ⟨eb, 0, none⟩) 0 0)).setCell (p := ⟨P, 2, none⟩) hPw (.slice (some ⟨vb, 0, none⟩) 3 3)).setCell (p := ⟨P, 3, none⟩) hPw (.slice (some ⟨sb, 0, none⟩) 0 0)
          have hq := (((hp.set0 (.int .i64 0)).set1 (.slice (some ⟨eb, 0, none⟩) 0 0)).set2 (.slice (some ⟨vb, 0, none⟩) 3 3)).set3 (.slice (some ⟨sb, 0, none⟩) 0 0)
          have hv := row_set (row_set (row_set (row_set hv hne 0 (.int .i64 0)) hne 1 (.slice (some ⟨eb, 0, none⟩) 0 0)) hne 2 (.slice (some ⟨vb, 0, none⟩) 3 3)) hne 3 (.slice (some ⟨sb, 0, none⟩) 0 0)
          clear c0 c1 c2 c3 fz
          refine hK.out _ _ (HMK.out _ kz) (fun hHeld => ?_)
          clear hK K
          try go_frame
          refine wpAnyH_done (by kernel_rfl) ?_ _
          go_wp2
          go_meet
          exact ⟨P, eb, vb, sb, _, rfl, hq, hv, hne, hPw, kz⟩
        · go_simp
          have bp : Below we.heap.size we (we.alloc (.cells #[.int .i64 0, .slice none 0 0, .slice none 0 0, .slice none 0 0] 31)) := (Below.refl _ _).alloc (Nat.le_refl _) _
          have hp := Box4.new we 31 (.int .i64 0) (.slice none 0 0) (.slice none 0 0) (.slice none 0 0)
          have k0sep : Below W0.heap.size W0 (we.alloc (.cells #[.int .i64 0, .slice none 0 0, .slice none 0 0, .slice none 0 0] 31)) := k0se.trans (bp.mono k0se.size)
          have hPw : W0.heap.size ≤ we.heap.size := k0se.size
          have hpl := hp.lt
          generalize we.alloc (.cells #[.int .i64 0, .slice none 0 0, .slice none 0 0, .slice none 0 0] 31) = wp at hp hpl k0sep bp ⊢
          generalize we.heap.size = P at hp hpl hPw ⊢
          clear bp
          refine hK.out _ _ (HMK.out _ k0sep) (fun hHeld => ?_)
          clear hK K
          try go_frame
          refine wpAnyH_ready (rs := [5]) (by kernel_rfl) (by simp) ?_
          refine consL rfl (fun K hK => ?_) AllReadyH.nil
          refine step_make_full rfl (.const (.int .i64 3)) (.const (.int .i64 3)) 29 rfl W0.heap.size 64 i1 _ 1 Tryz.underlying29 hi1 hz10 hz11 .i64 .i64 _ _ 3 rfl rfl (by simp) (by simp) (by rw [hz12]; omega) (by unfold maxLen; omega) k0sep.size ?_
          intro wv hov hgv
          have bv : Below wp.heap.size wp wv := (Below.refl _ _).grown hgv (Nat.le_refl _) (by simp)
          have k0sepv : Below W0.heap.size W0 wv := k0sep.trans (bv.mono k0sep.size)
          have hpo := hp.lt
          have hp := hp.keep bv
          have hne : wp.heap.size ≠ P := by have := hpo; omega
          clear hpo
          generalize wp.heap.size = vb at hov hne ⊢
          have hv : wv.ownsRow W0.heap.size 64 1 (.slice (some ⟨vb, 0, none⟩) 3 3) 3 _ := hov
          clear hov hgv bv
          refine hK.out _ _ (HMK.out _ k0sepv) (fun hHeld => ?_)
          clear hK K
          try go_frame
          refine wpAnyH_takeL (i := 10) (v := ?_) rfl (by kernel_rfl) (by kernel_rfl) (by kernel_rfl) (fun _ _ _ h => h) (Or.inl ⟨by rfl, ?_⟩) hHeld ?_
          rotate_left
          · (intro w hSw; (try dsimp only at hSw); go_simp; try with_reducible rfl)
          try go_frame
          refine wpAnyH_ready (rs := [12]) (by kernel_rfl) (by simp) ?_
          refine consL rfl (fun K hK => ?_) AllReadyH.nil
          have c0 := hp.c0
          have c1 := hp.c1
          have c2 := hp.c2
          have c3 := hp.c3
          have fz := hp.fz
          go_simp
          have kz := (((k0sepv.setCell (p := ⟨P, 0, none⟩) hPw (.int .i64 0)).setCell (p := ⟨P, 1, none⟩) hPw (.slice (some ⟨eb, 0, none⟩) 0 0)).setCell (p := ⟨P, 2, none⟩) hPw (.slice (some ⟨vb, 0, none⟩) 3 3)).setCell (p := ⟨P, 3, none⟩) hPw (.slice (some ⟨sb, 0, none⟩) 0 0)
          have hq := (((hp.set0 (.int .i64 0)).set1 (.slice (some ⟨eb, 0, none⟩) 0 0)).set2 (.slice (some ⟨vb, 0, none⟩) 3 3)).set3 (.slice (some ⟨sb, 0, none⟩) 0 0)
          have hv := row_set (row_set (row_set (row_set hv hne 0 (.int .i64 0)) hne 1 (.slice (some ⟨eb, 0, none⟩) 0 0)) hne 2 (.slice (some ⟨vb, 0, none⟩) 3 3)) hne 3 (.slice (some ⟨sb, 0, none⟩) 0 0)
          clear c0 c1 c2 c3 fz
          refine hK.out _ _ (HMK.out _ kz) (fun hHeld => ?_)
          clear hK K
          try go_frame
          refine wpAnyH_done (by kernel_rfl) ?_ _
          go_wp2
          go_meet
          exact ⟨P, eb, vb, sb, _, rfl, hq, hv, hne, hPw, kz⟩
      · refine step_make_full rfl (.const (.int .i64 3)) (.const (.int .i64 3)) 29 rfl W0.heap.size 64 i1 _ 1 Tryz.underlying29 hi1 hz10 hz11 .i64 .i64 _ _ 3 rfl rfl (by simp) (by simp) (by rw [hz12]; omega) (by unfold maxLen; omega) k0s.size ?_
        intro wv hov hgv
        have bv : Below ws.heap.size ws wv := (Below.refl _ _).grown hgv (Nat.le_refl _) (by simp)
        have k0sv : Below W0.heap.size W0 wv := k0s.trans (bv.mono k0s.size)
        generalize ws.heap.size = vb at hov ⊢
        have hv : wv.ownsRow W0.heap.size 64 1 (.slice (some ⟨vb, 0, none⟩) 3 3) 3 _ := hov
        clear hov hgv bv
        refine hK.out _ _ (HMK.out _ k0sv) (fun hHeld => ?_)
        clear hK K
        try go_frame
        refine wpAnyH_ready (rs := [4, 11]) (by kernel_rfl) (by simp) ?_
        refine consL rfl (fun K hK => ?_) (consL rfl (fun K hK => ?_) AllReadyH.nil)
        · go_simp
          refine (CE.out _).mono ?_
          rintro e we ⟨eb, rfl, be⟩
          have k0sve : Below W0.heap.size W0 we := k0sv.trans (be.mono k0sv.size)
          have hv := row_keep hv be
          clear be
          go_wp2_with fail
          refine hK.out _ _ (HMK.out _ k0sve) (fun hHeld => ?_)
          clear hK K
          try go_frame
          refine wpAnyH_takeL (i := 10) (v := ?_) rfl (by kernel_rfl) (by kernel_rfl) (by kernel_rfl) (fun _ _ _ h => h) (Or.inl ⟨by rfl, ?_⟩) hHeld ?_
          rotate_left
          · (intro w hSw; (try dsimp only at hSw); go_simp; try with_reducible rfl)
          try go_frame
          refine wpAnyH_ready (rs := [11]) (by kernel_rfl) (by simp) ?_
          refine consL rfl (fun K hK => ?_) AllReadyH.nil
          go_simp
          have bp : Below we.heap.size we (we.alloc (.cells #[.int .i64 0, .slice none 0 0, .slice none 0 0, .slice none 0 0] 31)) := (Below.refl _ _).alloc (Nat.le_refl _) _
          have hp := Box4.new we 31 (.int .i64 0) (.slice none 0 0) (.slice none 0 0) (.slice none 0 0)
          have k0svep : Below W0.heap.size W0 (we.alloc (.cells #[.int .i64 0, .slice none 0 0, .slice none 0 0, .slice none 0 0] 31)) := k0sve.trans (bp.mono k0sve.size)
          have hvo := (hv.lt vb rfl).2
          have hv := row_keep hv bp
          have hPw : W0.heap.size ≤ we.heap.size := k0sve.size
          have hne : vb ≠ we.heap.size := by have := hvo; omega
          clear hvo
          have hpl := hp.lt
          generalize we.alloc (.cells #[.int .i64 0, .slice none 0 0, .slice none 0 0, .slice none 0 0] 31) = wp at hp hpl k0svep bp hv ⊢
          generalize we.heap.size = P at hp hpl hPw hne ⊢
          clear bp
          refine hK.out _ _ (HMK.out _ k0svep) (fun hHeld => ?_)
          clear hK K
          try go_frame
          refine wpAnyH_ready (rs := [12]) (by kernel_rfl) (by simp) ?_
          refine consL rfl (fun K hK => ?_) AllReadyH.nil
          have c0 := hp.c0
          have c1 := hp.c1
          have c2 := hp.c2
          have c3 := hp.c3
          have fz := hp.fz
          go_simp
          have kz := (((k0svep.setCell (p := ⟨P, 0, none⟩) hPw (.int .i64 0)).setCell (p := ⟨P, 1, none⟩) hPw (.slice (some ⟨eb, 0, none⟩) 0 0)).setCell (p := ⟨P, 2, none⟩) hPw (.slice (some ⟨vb, 0, none⟩) 3 3)).setCell (p := ⟨P, 3, none⟩) hPw (.slice (some ⟨sb, 0, none⟩) 0 0)
          have hq := (((hp.set0 (.int .i64 0)).set1 (.slice (some ⟨eb, 0, none⟩) 0 0)).set2 (.slice (some ⟨vb, 0, none⟩) 3 3)).set3 (.slice (some ⟨sb, 0, none⟩) 0 0)
          have hv := row_set (row_set (row_set (row_set hv hne 0 (.int .i64 0)) hne 1 (.slice (some ⟨eb, 0, none⟩) 0 0)) hne 2 (.slice (some ⟨vb, 0, none⟩) 3 3)) hne 3 (.slice (some ⟨sb, 0, none⟩) 0 0)
          clear c0 c1 c2 c3 fz
          refine hK.out _ _ (HMK.out _ kz) (fun hHeld => ?_)
          clear hK K
          try go_frame
          refine wpAnyH_done (by kernel_rfl) ?_ _
          go_wp2
          go_meet
          exact ⟨P, eb, vb, sb, _, rfl, hq, hv, hne, hPw, kz⟩
        · go_simp
          have bp : Below wv.heap.size wv (wv.alloc (.cells #[.int .i64 0, .slice none 0 0, .slice none 0 0, .slice none 0 0] 31)) := (Below.refl _ _).alloc (Nat.le_refl _) _
          have hp := Box4.new wv 31 (.int .i64 0) (.slice none 0 0) (.slice none 0 0) (.slice none 0 0)
          have k0svp : Below W0.heap.size W0 (wv.alloc (.cells #[.int .i64 0, .slice none 0 0, .slice none 0 0, .slice none 0 0] 31)) := k0sv.trans (bp.mono k0sv.size)
          have hvo := (hv.lt vb rfl).2
          have hv := row_keep hv bp
          have hPw : W0.heap.size ≤ wv.heap.size := k0sv.size
          have hne : vb ≠ wv.heap.size := by have := hvo; omega
          clear hvo
          have hpl := hp.lt
          generalize wv.alloc (.cells #[.int .i64 0, .slice none 0 0, .slice none 0 0, .slice none 0 0] 31) = wp at hp hpl k0svp bp hv ⊢
          generalize wv.heap.size = P at hp hpl hPw hne ⊢
          clear bp
          refine hK.out _ _ (HMK.out _ k0svp) (fun hHeld => ?_)
          clear hK K
          try go_frame
          refine wpAnyH_ready (rs := [4]) (by kernel_rfl) (by simp) ?_
          refine consL rfl (fun K hK => ?_) AllReadyH.nil
          go_simp
          refine (CE.out _).mono ?_
          rintro e we ⟨eb, rfl, be⟩
          have k0svpe : Below W0.heap.size W0 we := k0svp.trans (be.mono k0svp.size)
          have hv := row_keep hv be
          have hp := hp.keep be
          clear be
          go_wp2_with fail
          refine hK.out _ _ (HMK.out _ k0svpe) (fun hHeld => ?_)
          clear hK K
          try go_frame
          refine wpAnyH_takeL (i := 10) (v := ?_) rfl (by kernel_rfl) (by kernel_rfl) (by kernel_rfl) (fun _ _ _ h => h) (Or.inl ⟨by rfl, ?_⟩) hHeld ?_
          rotate_left
          · (intro w hSw; (try dsimp only at hSw); go_simp; try with_reducible rfl)
          try go_frame
          refine wpAnyH_ready (rs := [12]) (by kernel_rfl) (by simp) ?_
          refine consL rfl (fun K hK => ?_) AllReadyH.nil
          have c0 := hp.c0
          have c1 := hp.c1
          have c2 := hp.c2
          have c3 := hp.c3
          have fz := hp.fz
          go_simp
          have kz := (((k0svpe.setCell (p := ⟨P, 0, none⟩) hPw (.int .i64 0)).setCell (p := ⟨P, 1, none⟩) hPw (.slice (some ⟨eb, 0, none⟩) 0 0)).setCell (p := ⟨P, 2, none⟩) hPw (.slice (some ⟨vb, 0, none⟩) 3 3)).setCell (p := ⟨P, 3, none⟩) hPw (.slice (some ⟨sb, 0, none⟩) 0 0)
          have hq := (((hp.set0 (.int .i64 0)).set1 (.slice (some ⟨eb, 0, none⟩) 0 0)).set2 (.slice (some ⟨vb, 0, none⟩) 3 3)).set3 (.slice (some ⟨sb, 0, none⟩) 0 0)
          have hv := row_set (row_set (row_set (row_set hv hne 0 (.int .i64 0)) hne 1 (.slice (some ⟨eb, 0, none⟩) 0 0)) hne 2 (.slice (some ⟨vb, 0, none⟩) 3 3)) hne 3 (.slice (some ⟨sb, 0, none⟩) 0 0)
          clear c0 c1 c2 c3 fz
          refine hK.out _ _ (HMK.out _ kz) (fun hHeld => ?_)
          clear hK K
          try go_frame
          refine wpAnyH_done (by kernel_rfl) ?_ _
          go_wp2
          go_meet
          exact ⟨P, eb, vb, sb, _, rfl, hq, hv, hne, hPw, kz⟩
      · go_simp
        have bp : Below ws.heap.size ws (ws.alloc (.cells #[.int .i64 0, .slice none 0 0, .slice none 0 0, .slice none 0 0] 31)) := (Below.refl _ _).alloc (Nat.le_refl _) _
        have hp := Box4.new ws 31 (.int .i64 0) (.slice none 0 0) (.slice none 0 0) (.slice none 0 0)
        have k0sp : Below W0.heap.size W0 (ws.alloc (.cells #[.int .i64 0, .slice none 0 0, .slice none 0 0, .slice none 0 0] 31)) := k0s.trans (bp.mono k0s.size)
        have hPw : W0.heap.size ≤ ws.heap.size := k0s.size
        have hpl := hp.lt
        generalize ws.alloc (.cells #[.int .i64 0, .slice none 0 0, .slice none 0 0, .slice none 0 0] 31) = wp at hp hpl k0sp bp ⊢
        generalize ws.heap.size = P at hp hpl hPw ⊢
        clear bp
        refine hK.out _ _ (HMK.out _ k0sp) (fun hHeld => ?_)
        clear hK K
        try go_frame
        refine wpAnyH_ready (rs := [4, 5]) (by kernel_rfl) (by simp) ?_
        refine consL rfl (fun K hK => ?_) (consL rfl (fun K hK => ?_) AllReadyH.nil)
        · go_simp
          refine (CE.out _).mono ?_
          rintro e we ⟨eb, rfl, be⟩
          have k0spe : Below W0.heap.size W0 we := k0sp.trans (be.mono k0sp.size)
          have hp := hp.keep be
          clear be
          go_wp2_with fail
          refine hK.out _ _ (HMK.out _ k0spe) (fun hHeld => ?_)
          clear hK K
          try go_frame
          refine wpAnyH_ready (rs := [5]) (by kernel_rfl) (by simp) ?_
          refine consL rfl (fun K hK => ?_) AllReadyH.nil
          refine step_make_full rfl (.const (.int .i64 3)) (.const (.int .i64 3)) 29 rfl W0.heap.size 64 i1 _ 1 Tryz.underlying29 hi1 hz10 hz11 .i64 .i64 _ _ 3 rfl rfl (by simp) (by simp) (by rw [hz12]; omega) (by unfold maxLen; omega) k0spe.size ?_
          intro wv hov hgv
          have bv : Below we.heap.size we wv := (Below.refl _ _).grown hgv (Nat.le_refl _) (by simp)
          have k0spev : Below W0.heap.size W0 wv := k0spe.trans (bv.mono k0spe.size)
          have hpo := hp.lt
          have hp := hp.keep bv
          have hne : we.heap.size ≠ P := by have := hpo; omega
          clear hpo
          generalize we.heap.size = vb at hov hne ⊢
          have hv : wv.ownsRow W0.heap.size 64 1 (.slice (some ⟨vb, 0, none⟩) 3 3) 3 _ := hov
          clear hov hgv bv
          refine hK.out _ _ (HMK.out _ k0spev) (fun hHeld => ?_)
          clear hK K
          try go_frame
          refine wpAnyH_takeL (i := 10) (v := ?_) rfl (by kernel_rfl) (by kernel_rfl) (by kernel_rfl) (fun _ _ _ h => h) (Or.inl ⟨by rfl, ?_⟩) hHeld ?_
          rotate_left
          · (intro w hSw; (try dsimp only at hSw); go_simp; try with_reducible rfl)
          try go_frame
          refine wpAnyH_ready (rs := [12]) (by kernel_rfl) (by simp) ?_
          refine consL rfl (fun K hK => ?_) AllReadyH.nil
          have c0 := hp.c0
          have c1 := hp.c1
          have c2 := hp.c2
          have c3 := hp.c3
          have fz := hp.fz
          go_simp
          have kz := (((k0spev.setCell (p := ⟨P, 0, none⟩) hPw (.int .i64 0)).setCell (p := ⟨P, 1, none⟩) hPw (.slice (some ⟨eb, 0, none⟩) 0 0)).setCell (p := ⟨P, 2, none⟩) hPw (.slice (some ⟨vb, 0, none⟩) 3 3)).setCell (p := ⟨P, 3, none⟩) hPw (.slice (some ⟨sb, 0, none⟩) 0 0)
          have hq := (((hp.set0 (.int .i64 0)).set1 (.slice (some ⟨eb, 0, none⟩) 0 0)).set2 (.slice (some ⟨vb, 0, none⟩) 3 3)).set3 (.slice (some ⟨sb, 0, none⟩) 0 0)
          have hv := row_set (row_set (row_set (row_set hv hne 0 (.int .i64 0)) hne 1 (.slice (some ⟨eb, 0, none⟩) 0 0)) hne 2 (.slice (some ⟨vb, 0, none⟩) 3 3)) hne 3 (.slice (some ⟨sb, 0, none⟩) 0 0)
          clear c0 c1 c2 c3 fz
          refine hK.out _ _ (HMK.out _ kz) (fun hHeld => ?_)
          clear hK K
          try go_frame
          refine wpAnyH_done (by kernel_rfl) ?_ _
          go_wp2
          go_meet
          exact ⟨P, eb, vb, sb, _, rfl, hq, hv, hne, hPw, kz⟩
        · refine step_make_full rfl (.const (.int .i64 3)) (.const (.int .i64 3)) 29 rfl W0.heap.size 64 i1 _ 1 Tryz.underlying29 hi1 hz10 hz11 .i64 .i64 _ _ 3 rfl rfl (by simp) (by simp) (by rw [hz12]; omega) (by unfold maxLen; omega) k0sp.size ?_
          intro wv hov hgv
          have bv : Below wp.heap.size wp wv := (Below.refl _ _).grown hgv (Nat.le_refl _) (by simp)
          have k0spv : Below W0.heap.size W0 wv := k0sp.trans (bv.mono k0sp.size)
          have hpo := hp.lt
          have hp := hp.keep bv
          have hne : wp.heap.size ≠ P := by have := hpo; omega
          clear hpo
          generalize wp.heap.size = vb at hov hne ⊢
          have hv : wv.ownsRow W0.heap.size 64 1 (.slice (some ⟨vb, 0, none⟩) 3 3) 3 _ := hov
          clear hov hgv bv
          refine hK.out _ _ (HMK.out _ k0spv) (fun hHeld => ?_)
          clear hK K
          try go_frame
          refine wpAnyH_ready (rs := [4]) (by kernel_rfl) (by simp) ?_
          refine consL rfl (fun K hK => ?_) AllReadyH.nil
          go_simp
          refine (CE.out _).mono ?_
          rintro e we ⟨eb, rfl, be⟩
          have k0spve : Below W0.heap.size W0 we := k0spv.trans (be.mono k0spv.size)
          have hv := row_keep hv be
          have hp := hp.keep be
          clear be
          go_wp2_with fail
          refine hK.out _ _ (HMK.out _ k0spve) (fun hHeld => ?_)
          clear hK K
          try go_frame
          refine wpAnyH_takeL (i := 10) (v := ?_) rfl (by kernel_rfl) (by kernel_rfl) (by kernel_rfl) (fun _ _ _ h => h) (Or.inl ⟨by rfl, ?_⟩) hHeld ?_
          rotate_left
          · (intro w hSw; (try dsimp only at hSw); go_simp; try with_reducible rfl)
          try go_frame
          refine wpAnyH_ready (rs := [12]) (by kernel_rfl) (by simp) ?_
          refine consL rfl (fun K hK => ?_) AllReadyH.nil
          have c0 := hp.c0
          have c1 := hp.c1
          have c2 := hp.c2
          have c3 := hp.c3
          have fz := hp.fz
          go_simp
          have kz := (((k0spve.setCell (p := ⟨P, 0, none⟩) hPw (.int .i64 0)).setCell (p := ⟨P, 1, none⟩) hPw (.slice (some ⟨eb, 0, none⟩) 0 0)).setCell (p := ⟨P, 2, none⟩) hPw (.slice (some ⟨vb, 0, none⟩) 3 3)).setCell (p := ⟨P, 3, none⟩) hPw (.slice (some ⟨sb, 0, none⟩) 0 0)
          have hq := (((hp.set0 (.int .i64 0)).set1 (.slice (some ⟨eb, 0, none⟩) 0 0)).set2 (.slice (some ⟨vb, 0, none⟩) 3 3)).set3 (.slice (some ⟨sb, 0, none⟩) 0 0)
          have hv := row_set (row_set (row_set (row_set hv hne 0 (.int .i64 0)) hne 1 (.slice (some ⟨eb, 0, none⟩) 0 0)) hne 2 (.slice (some ⟨vb, 0, none⟩) 3 3)) hne 3 (.slice (some ⟨sb, 0, none⟩) 0 0)
          clear c0 c1 c2 c3 fz
          refine hK.out _ _ (HMK.out _ kz) (fun hHeld => ?_)
          clear hK K
          try go_frame
          refine wpAnyH_done (by kernel_rfl) ?_ _
          go_wp2
          go_meet
          exact ⟨P, eb, vb, sb, _, rfl, hq, hv, hne, hPw, kz⟩
    · go_simp
      have bp : Below wd.heap.size wd (wd.alloc (.cells #[.int .i64 0, .slice none 0 0, .slice none 0 0, .slice none 0 0] 31)) := (Below.refl _ _).alloc (Nat.le_refl _) _
      have hp := Box4.new wd 31 (.int .i64 0) (.slice none 0 0) (.slice none 0 0) (.slice none 0 0)
      have k0p : Below W0.heap.size W0 (wd.alloc (.cells #[.int .i64 0, .slice none 0 0, .slice none 0 0, .slice none 0 0] 31)) := k0.trans (bp.mono k0.size)
      have hPw : W0.heap.size ≤ wd.heap.size := k0.size
      have hpl := hp.lt
      generalize wd.alloc (.cells #[.int .i64 0, .slice none 0 0, .slice none 0 0, .slice none 0 0] 31) = wp at hp hpl k0p bp ⊢
      generalize wd.heap.size = P at hp hpl hPw ⊢
      clear bp
      refine hK.out _ _ (HMK.out _ k0p) (fun hHeld => ?_)
      clear hK K
      try go_frame
      refine wpAnyH_ready (rs := [4, 5, 9]) (by kernel_rfl) (by simp) ?_
      refine consL rfl (fun K hK => ?_) (consL rfl (fun K hK => ?_) (consL rfl (fun K hK => ?_) AllReadyH.nil))
      · go_simp
        refine (CE.out _).mono ?_
        rintro e we ⟨eb, rfl, be⟩
        have k0pe : Below W0.heap.size W0 we := k0p.trans (be.mono k0p.size)
        have hp := hp.keep be
        clear be
        go_wp2_with fail
        refine hK.out _ _ (HMK.out _ k0pe) (fun hHeld => ?_)
        clear hK K
        try go_frame
        refine wpAnyH_ready (rs := [5, 9]) (by kernel_rfl) (by simp) ?_
        refine consL rfl (fun K hK => ?_) (consL rfl (fun K hK => ?_) AllReadyH.nil)
        · refine step_make_full rfl (.const (.int .i64 3)) (.const (.int .i64 3)) 29 rfl W0.heap.size 64 i1 _ 1 Tryz.underlying29 hi1 hz10 hz11 .i64 .i64 _ _ 3 rfl rfl (by simp) (by simp) (by rw [hz12]; omega) (by unfold maxLen; omega) k0pe.size ?_
          intro wv hov hgv
          have bv : Below we.heap.size we wv := (Below.refl _ _).grown hgv (Nat.le_refl _) (by simp)
          have k0pev : Below W0.heap.size W0 wv := k0pe.trans (bv.mono k0pe.size)
          have hpo := hp.lt
          have hp := hp.keep bv
          have hne : we.heap.size ≠ P := by have := hpo; omega
          clear hpo
          generalize we.heap.size = vb at hov hne ⊢
          have hv : wv.ownsRow W0.heap.size 64 1 (.slice (some ⟨vb, 0, none⟩) 3 3) 3 _ := hov
          clear hov hgv bv
          refine hK.out _ _ (HMK.out _ k0pev) (fun hHeld => ?_)
          clear hK K
          try go_frame
          refine wpAnyH_ready (rs := [9]) (by kernel_rfl) (by simp) ?_
          refine consL rfl (fun K hK => ?_) AllReadyH.nil
          refine step_make_full rfl (.tmp 14) (.tmp 14) 24 rfl W0.heap.size 3 i2 _ 1 Tryz.underlying24 hi2 hz20 hz21 .i64 .i64 _ _ 0 rfl rfl (by simp) (by simp) (by rw [hz22]; omega) (by unfold maxLen; omega) k0pev.size ?_
          intro ws hos hgs
          have bs : Below wv.heap.size wv ws := (Below.refl _ _).grown hgs (Nat.le_refl _) (by simp)
          have k0pevs : Below W0.heap.size W0 ws := k0pev.trans (bs.mono k0pev.size)
          have hv := row_keep hv bs
          have hp := hp.keep bs
          generalize wv.heap.size = sb at ⊢
          clear hos hgs bs
          refine hK.out _ _ (HMK.out _ k0pevs) (fun hHeld => ?_)
          clear hK K
          try go_frame
          refine wpAnyH_takeL (i := 10) (v := ?_) rfl (by kernel_rfl) (by kernel_rfl) (by kernel_rfl) (fun _ _ _ h => h) (Or.inl ⟨by rfl, ?_⟩) hHeld ?_
          rotate_left
          · (intro w hSw; (try dsimp only at hSw); go_simp; try with_reducible rfl)
          try go_frame
          refine wpAnyH_ready (rs := [12]) (by kernel_rfl) (by simp) ?_
          refine consL rfl (fun K hK => ?_) AllReadyH.nil
          have c0 := hp.c0
          have c1 := hp.c1
          have c2 := hp.c2
          have c3 := hp.c3
          have fz := hp.fz
          go_simp
          have kz := (((k0pevs.setCell (p := ⟨P, 0, none⟩) hPw (.int .i64 0)).setCell (p := ⟨P, 1, none⟩) hPw (.slice (some ⟨eb, 0, none⟩) 0 0)).setCell (p := ⟨P, 2, none⟩) hPw (.slice (some ⟨vb, 0, none⟩) 3 3)).setCell (p := ⟨P, 3, none⟩) hPw (.slice (some ⟨sb, 0, none⟩) 0 0)
          have hq := (((hp.set0 (.int .i64 0)).set1 (.slice (some ⟨eb, 0, none⟩) 0 0)).set2 (.slice (some ⟨vb, 0, none⟩) 3 3)).set3 (.slice (some ⟨sb, 0, none⟩) 0 0)
          have hv := row_set (row_set (row_set (row_set hv hne 0 (.int .i64 0)) hne 1 (.slice (some ⟨eb, 0, none⟩) 0 0)) hne 2 (.slice (some ⟨vb, 0, none⟩) 3 3)) hne 3 (.slice (some ⟨sb, 0, none⟩) 0 0)
          clear c0 c1 c2 c3 fz
          refine hK.out _ _ (HMK.out _ kz) (fun hHeld => ?_)
          clear hK K
          try go_frame
          refine wpAnyH_done (by kernel_rfl) ?_ _
          go_wp2
          go_meet
          exact ⟨P, eb, vb, sb, _, rfl, hq, hv, hne, hPw, kz⟩
        · refine step_make_full rfl (.tmp 14) (.tmp 14) 24 rfl W0.heap.size 3 i2 _ 1 Tryz.underlying24 hi2 hz20 hz21 .i64 .i64 _ _ 0 rfl rfl (by simp) (by simp) (by rw [hz22]; omega) (by unfold maxLen; omega) k0pe.size ?_
          intro ws hos hgs
          have bs : Below we.heap.size we ws := (Below.refl _ _).grown hgs (Nat.le_refl _) (by simp)
          have k0pes : Below W0.heap.size W0 ws := k0pe.trans (bs.mono k0pe.size)
          have hp := hp.keep bs
          generalize we.heap.size = sb at ⊢
          clear hos hgs bs
          refine hK.out _ _ (HMK.out _ k0pes) (fun hHeld => ?_)
          clear hK K
          try go_frame
          refine wpAnyH_ready (rs := [5]) (by kernel_rfl) (by simp) ?_
          refine consL rfl (fun K hK => ?_) AllReadyH.nil
          refine step_make_full rfl (.const (.int .i64 3)) (.const (.int .i64 3)) 29 rfl W0.heap.size 64 i1 _ 1 Tryz.underlying29 hi1 hz10 hz11 .i64 .i64 _ _ 3 rfl rfl (by simp) (by simp) (by rw [hz12]; omega) (by unfold maxLen; omega) k0pes.size ?_
          intro wv hov hgv
          have bv : Below ws.heap.size ws wv := (Below.refl _ _).grown hgv (Nat.le_refl _) (by simp)
          have k0pesv : Below W0.heap.size W0 wv := k0pes.trans (bv.mono k0pes.size)
          have hpo := hp.lt
          have hp := hp.keep bv
          have hne : ws.heap.size ≠ P := by have := hpo; omega
          clear hpo
          generalize ws.heap.size = vb at hov hne ⊢
          have hv : wv.ownsRow W0.heap.size 64 1 (.slice (some ⟨vb, 0, none⟩) 3 3) 3 _ := hov
          clear hov hgv bv
          refine hK.out _ _ (HMK.out _ k0pesv) (fun hHeld => ?_)
          clear hK K
          try go_frame
          refine wpAnyH_takeL (i := 10) (v := ?_) rfl (by kernel_rfl) (by kernel_rfl) (by kernel_rfl) (fun _ _ _ h => h) (Or.inl ⟨by rfl, ?_⟩) hHeld ?_
          rotate_left
          · (intro w hSw; (try dsimp only at hSw); go_simp; try with_reducible rfl)
          try go_frame
          refine wpAnyH_ready (rs := [12]) (by kernel_rfl) (by simp) ?_
          refine consL rfl (fun K hK => ?_) AllReadyH.nil
          have c0 := hp.c0
          have c1 := hp.c1
          have c2 := hp.c2
          have c3 := hp.c3
          have fz := hp.fz
          go_simp
          have kz := (((k0pesv.setCell (p := ⟨P, 0, none⟩) hPw (.int .i64 0)).setCell (p := ⟨P, 1, none⟩) hPw (.slice (some ⟨eb, 0, none⟩) 0 0)).setCell (p := ⟨P, 2, none⟩) hPw (.slice (some ⟨vb, 0, none⟩) 3 3)).setCell (p := ⟨P, 3, none⟩) hPw (.slice (some ⟨sb, 0, none⟩) 0 0)
          have hq := (((hp.set0 (.int .i64 0)).set1 (.slice (some ⟨eb, 0, none⟩) 0 0)).set2 (.slice (some ⟨vb, 0, none⟩) 3 3)).set3 (.slice (some ⟨sb, 0, none⟩) 0 0)
          have hv := row_set (row_set (row_set (row_set hv hne 0 (.int .i64 0)) hne 1 (.slice (some ⟨eb, 0, none⟩) 0 0)) hne 2 (.slice (some ⟨vb, 0, none⟩) 3 3)) hne 3 (.slice (some ⟨sb, 0, none⟩) 0 0)
          clear c0 c1 c2 c3 fz
          refine hK.out _ _ (HMK.out _ kz) (fun hHeld => ?_)
          clear hK K
          try go_frame
          refine wpAnyH_done (by kernel_rfl) ?_ _
          go_wp2
          go_meet
          exact ⟨P, eb, vb, sb, _, rfl, hq, hv, hne, hPw, kz⟩
      · refine step_make_full rfl (.const (.int .i64 3)) (.const (.int .i64 3)) 29 rfl W0.heap.size 64 i1 _ 1 Tryz.underlying29 hi1 hz10 hz11 .i64 .i64 _ _ 3 rfl rfl (by simp) (by simp) (by rw [hz12]; omega) (by unfold maxLen; omega) k0p.size ?_
        intro wv hov hgv
        have bv : Below wp.heap.size wp wv := (Below.refl _ _).grown hgv (Nat.le_refl _) (by simp)
        have k0pv : Below W0.heap.size W0 wv := k0p.trans (bv.mono k0p.size)
        have hpo := hp.lt
        have hp := hp.keep bv
        have hne : wp.heap.size ≠ P := by have := hpo; omega
        clear hpo
        generalize wp.heap.size = vb at hov hne ⊢
        have hv : wv.ownsRow W0.heap.size 64 1 (.slice (some ⟨vb, 0, none⟩) 3 3) 3 _ := hov
        clear hov hgv bv
        refine hK.out _ _ (HMK.out _ k0pv) (fun hHeld => ?_)
        clear hK K
        try go_frame
        refine wpAnyH_ready (rs := [4, 9]) (by kernel_rfl) (by simp) ?_
        refine consL rfl (fun K hK => ?_) (consL rfl (fun K hK => ?_) AllReadyH.nil)
        · go_simp
          refine (CE.out _).mono ?_
          rintro e we ⟨eb, rfl, be⟩
          have k0pve : Below W0.heap.size W0 we := k0pv.trans (be.mono k0pv.size)
          have hv := row_keep hv be
          have hp := hp.keep be
          clear be
          go_wp2_with fail
          refine hK.out _ _ (HMK.out _ k0pve) (fun hHeld => ?_)
          clear hK K
          try go_frame
          refine wpAnyH_ready (rs := [9]) (by kernel_rfl) (by simp) ?_
          refine consL rfl (fun K hK => ?_) AllReadyH.nil
          refine step_make_full rfl (.tmp 14) (.tmp 14) 24 rfl W0.heap.size 3 i2 _ 1 Tryz.underlying24 hi2 hz20 hz21 .i64 .i64 _ _ 0 rfl rfl (by simp) (by simp) (by rw [hz22]; omega) (by unfold maxLen; omega) k0pve.size ?_
          intro ws hos hgs
          have bs : Below we.heap.size we ws := (Below.refl _ _).grown hgs (Nat.le_refl _) (by simp)
          have k0pves : Below W0.heap.size W0 ws := k0pve.trans (bs.mono k0pve.size)
          have hv := row_keep hv bs
          have hp := hp.keep bs
          generalize we.heap.size = sb at ⊢
          clear hos hgs bs
          refine hK.out _ _ (HMK.out _ k0pves) (fun hHeld => ?_)
          clear hK K
          try go_frame
          refine wpAnyH_takeL (i := 10) (v := ?_) rfl (by kernel_rfl) (by kernel_rfl) (by kernel_rfl) (fun _ _ _ h => h) (Or.inl ⟨by rfl, ?_⟩) hHeld ?_
          rotate_left
          · (intro w hSw; (try dsimp only at hSw); go_simp; try with_reducible rfl)
          try go_frame
          refine wpAnyH_ready (rs := [12]) (by kernel_rfl) (by simp) ?_
          refine consL rfl (fun K hK => ?_) AllReadyH.nil
          have c0 := hp.c0
          have c1 := hp.c1
          have c2 := hp.c2
          have c3 := hp.c3
          have fz := hp.fz
          go_simp
          have kz := (((k0pves.setCell (p := ⟨P, 0, none⟩) hPw (.int .i64 0)).setCell (p := ⟨P, 1, none⟩) hPw (.slice (some ⟨eb, 0, none⟩) 0 0)).setCell (p := ⟨P, 2, none⟩) hPw (.slice (some ⟨vb, 0, none⟩) 3 3)).setCell (p := ⟨P, 3, none⟩) hPw (.slice (some ⟨sb, 0, none⟩) 0 0)
          have hq := (((hp.set0 (.int .i64 0)).set1 (.slice (some ⟨eb, 0, none⟩) 0 0)).set2 (.slice (some ⟨vb, 0, none⟩) 3 3)).set3 (.slice (some ⟨sb, 0, none⟩) 0 0)
          have hv := row_set (row_set (row_set (row_set hv hne 0 (.int .i64 0)) hne 1 (.slice (some ⟨eb, 0, none⟩) 0 0)) hne 2 (.slice (some ⟨vb, 0, none⟩) 3 3)) hne 3 (.slice (some ⟨sb, 0, none⟩) 0 0)
          clear c0 c1 c2 c3 fz
          refine hK.out _ _ (HMK.out _ kz) (fun hHeld => ?_)
          clear hK K
          try go_frame
          refine wpAnyH_done (by kernel_rfl) ?_ _
          go_wp2
          go_meet
          exact ⟨P, eb, vb, sb, _, rfl, hq, hv, hne, hPw, kz⟩
        · refine step_make_full rfl (.tmp 14) (.tmp 14) 24 rfl W0.heap.size 3 i2 _ 1 Tryz.underlying24 hi2 hz20 hz21 .i64 .i64 _ _ 0 rfl rfl (by simp) (by simp) (by rw [hz22]; omega) (by unfold maxLen; omega) k0pv.size ?_
          intro ws hos hgs
          have bs : Below wv.heap.size wv ws := (Below.refl _ _).grown hgs (Nat.le_refl _) (by simp)
          have k0pvs : Below W0.heap.size W0 ws := k0pv.trans (bs.mono k0pv.size)
          have hv := row_keep hv bs
          have hp := hp.keep bs
          generalize wv.heap.size = sb at ⊢
          clear hos hgs bs
          refine hK.out _ _ (HMK.out _ k0pvs) (fun hHeld => ?_)
          clear hK K
          try go_frame
          refine wpAnyH_ready (rs := [4]) (by kernel_rfl) (by simp) ?_
          refine consL rfl (fun K hK => ?_) AllReadyH.nil
          go_simp
          refine (CE.out _).mono ?_
          rintro e we ⟨eb, rfl, be⟩
          have k0pvse : Below W0.heap.size W0 we := k0pvs.trans (be.mono k0pvs.size)
          have hv := row_keep hv be
          have hp := hp.keep be
          clear be
          go_wp2_with fail
          refine hK.out _ _ (HMK.out _ k0pvse) (fun hHeld => ?_)
          clear hK K
          try go_frame
          refine wpAnyH_takeL (i := 10) (v := ?_) rfl (by kernel_rfl) (by kernel_rfl) (by kernel_rfl) (fun _ _ _ h => h) (Or.inl ⟨by rfl, ?_⟩) hHeld ?_
          rotate_left
          · (intro w hSw; (try dsimp only at hSw); go_simp; try with_reducible rfl)
          try go_frame
          refine wpAnyH_ready (rs := [12]) (by kernel_rfl) (by simp) ?_
          refine consL rfl (fun K hK => ?_) AllReadyH.nil
          have c0 := hp.c0
          have c1 := hp.c1
          have c2 := hp.c2
          have c3 := hp.c3
          have fz := hp.fz
          go_simp
          have kz := (((k0pvse.setCell (p := ⟨P, 0, none⟩) hPw (.int .i64 0)).setCell (p := ⟨P, 1, none⟩) hPw (.slice (some ⟨eb, 0, none⟩) 0 0)).setCell (p := ⟨P, 2, none⟩) hPw (.slice (some ⟨vb, 0, none⟩) 3 3)).setCell (p := ⟨P, 3, none⟩) hPw (.slice (some ⟨sb, 0, none⟩) 0 0)
          have hq := (((hp.set0 (.int .i64 0)).set1 (.slice (some ⟨eb, 0, none⟩) 0 0)).set2 (.slice (some ⟨vb, 0, none⟩) 3 3)).set3 (.slice (some ⟨sb, 0, none⟩) 0 0)
          have hv := row_set (row_set (row_set (row_set hv hne 0 (.int .i64 0)) hne 1 (.slice (some ⟨eb, 0, none⟩) 0 0)) hne 2 (.slice (some ⟨vb, 0, none⟩) 3 3)) hne 3 (.slice (some ⟨sb, 0, none⟩) 0 0)
          clear c0 c1 c2 c3 fz
          refine hK.out _ _ (HMK.out _ kz) (fun hHeld => ?_)
          clear hK K
          try go_frame
          refine wpAnyH_done (by kernel_rfl) ?_ _
          go_wp2
          go_meet
          exact ⟨P, eb, vb, sb, _, rfl, hq, hv, hne, hPw, kz⟩
      · refine step_make_full rfl (.tmp 14) (.tmp 14) 24 rfl W0.heap.size 3 i2 _ 1 Tryz.underlying24 hi2 hz20 hz21 .i64 .i64 _ _ 0 rfl rfl (by simp) (by simp) (by rw [hz22]; omega) (by unfold maxLen; omega) k0p.size ?_
        intro ws hos hgs
        have bs : Below wp.heap.size wp ws := (Below.refl _ _).grown hgs (Nat.le_refl _) (by simp)
        have k0ps : Below W0.heap.size W0 ws := k0p.trans (bs.mono k0p.size)
        have hp := hp.keep bs
        generalize wp.heap.size = sb at ⊢
        clear hos hgs bs
        refine hK.out _ _ (HMK.out _ k0ps) (fun hHeld => ?_)
        clear hK K
        try go_frame
        refine wpAnyH_ready (rs := [4, 5]) (by kernel_rfl) (by simp) ?_
        refine consL rfl (fun K hK => ?_) (consL rfl (fun K hK => ?_) AllReadyH.nil)
        · go_simp
          refine (CE.out _).mono ?_
          rintro e we ⟨eb, rfl, be⟩
          have k0pse : Below W0.heap.size W0 we := k0ps.trans (be.mono k0ps.size)
          have hp := hp.keep be
          clear be
          go_wp2_with fail
          refine hK.out _ _ (HMK.out _ k0pse) (fun hHeld => ?_)
          clear hK K
          try go_frame
          refine wpAnyH_ready (rs := [5]) (by kernel_rfl) (by simp) ?_
          refine consL rfl (fun K hK => ?_) AllReadyH.nil
          refine step_make_full rfl (.const (.int .i64 3)) (.const (.int .i64 3)) 29 rfl W0.heap.size 64 i1 _ 1 Tryz.underlying29 hi1 hz10 hz11 .i64 .i64 _ _ 3 rfl rfl (by simp) (by simp) (by rw [hz12]; omega) (by unfold maxLen; omega) k0pse.size ?_
          intro wv hov hgv
          have bv : Below we.heap.size we wv := (Below.refl _ _).grown hgv (Nat.le_refl _) (by simp)
          have k0psev : Below W0.heap.size W0 wv := k0pse.trans (bv.mono k0pse.size)
          have hpo := hp.lt
          have hp := hp.keep bv
          have hne : we.heap.size ≠ P := by have := hpo; omega
          clear hpo
          generalize we.heap.size = vb at hov hne ⊢
          have hv : wv.ownsRow W0.heap.size 64 1 (.slice (some ⟨vb, 0, none⟩) 3 3) 3 _ := hov
          clear hov hgv bv
          refine hK.out _ _ (HMK.out _ k0psev) (fun hHeld => ?_)
          clear hK K
          try go_frame
          refine wpAnyH_takeL (i := 10) (v := ?_) rfl (by kernel_rfl) (by kernel_rfl) (by kernel_rfl) (fun _ _ _ h => h) (Or.inl ⟨by rfl, ?_⟩) hHeld ?_
          rotate_left
          · (intro w hSw; (try dsimp only at hSw); go_simp; try with_reducible rfl)
          try go_frame
          refine wpAnyH_ready (rs := [12]) (by kernel_rfl) (by simp) ?_
          refine consL rfl (fun K hK => ?_) AllReadyH.nil
          have c0 := hp.c0
          have c1 := hp.c1
          have c2 := hp.c2
          have c3 := hp.c3
          have fz := hp.fz
          go_simp
          have kz := (((k0psev.setCell (p := ⟨P, 0, none⟩) hPw (.int .i64 0)).setCell (p := ⟨P, 1, none⟩) hPw (.slice (some ⟨eb, 0, none⟩) 0 0)).setCell (p := ⟨P, 2, none⟩) hPw (.slice (some ⟨vb, 0, none⟩) 3 3)).setCell (p := ⟨P, 3, none⟩) hPw (.slice (some ⟨sb, 0, none⟩) 0 0)
          have hq := (((hp.set0 (.int .i64 0)).set1 (.slice (some ⟨eb, 0, none⟩) 0 0)).set2 (.slice (some ⟨vb, 0, none⟩) 3 3)).set3 (.slice (some ⟨sb, 0, none⟩) 0 0)
          have hv := row_set (row_set (row_set (row_set hv hne 0 (.int .i64 0)) hne 1 (.slice (some ⟨eb, 0, none⟩) 0 0)) hne 2 (.slice (some ⟨vb, 0, none⟩) 3 3)) hne 3 (.slice (some ⟨sb, 0, none⟩) 0 0)
          clear c0 c1 c2 c3 fz
          refine hK.out _ _ (HMK.out _ kz) (fun hHeld => ?_)
          clear hK K
          try go_frame
          refine wpAnyH_done (by kernel_rfl) ?_ _
          go_wp2
          go_meet
          exact ⟨P, eb, vb, sb, _, rfl, hq, hv, hne, hPw, kz⟩
        · refine step_make_full rfl (.const (.int .i64 3)) (.const (.int .i64 3)) 29 rfl W0.heap.size 64 i1 _ 1 Tryz.underlying29 hi1 hz10 hz11 .i64 .i64 _ _ 3 rfl rfl (by simp) (by simp) (by rw [hz12]; omega) (by unfold maxLen; omega) k0ps.size ?_
          intro wv hov hgv
          have bv : Below ws.heap.size ws wv := (Below.refl _ _).grown hgv (Nat.le_refl _) (by simp)
          have k0psv : Below W0.heap.size W0 wv := k0ps.trans (bv.mono k0ps.size)
          have hpo := hp.lt
          have hp := hp.keep bv
          have hne : ws.heap.size ≠ P := by have := hpo; omega
          clear hpo
          generalize ws.heap.size = vb at hov hne ⊢
          have hv : wv.ownsRow W0.heap.size 64 1 (.slice (some ⟨vb, 0, none⟩) 3 3) 3 _ := hov
          clear hov hgv bv
          refine hK.out _ _ (HMK.out _ k0psv) (fun hHeld => ?_)
          clear hK K
          try go_frame
          refine wpAnyH_ready (rs := [4]) (by kernel_rfl) (by simp) ?_
          refine consL rfl (fun K hK => ?_) AllReadyH.nil
          go_simp
          refine (CE.out _).mono ?_
          rintro e we ⟨eb, rfl, be⟩
          have k0psve : Below W0.heap.size W0 we := k0psv.trans (be.mono k0psv.size)
          have hv := row_keep hv be
          have hp := hp.keep be
          clear be
          go_wp2_with fail
          refine hK.out _ _ (HMK.out _ k0psve) (fun hHeld => ?_)
          clear hK K
          try go_frame
          refine wpAnyH_takeL (i := 10) (v := ?_) rfl (by kernel_rfl) (by kernel_rfl) (by kernel_rfl) (fun _ _ _ h => h) (Or.inl ⟨by rfl, ?_⟩) hHeld ?_
          rotate_left
          · (intro w hSw; (try dsimp only at hSw); go_simp; try with_reducible rfl)
          try go_frame
          refine wpAnyH_ready (rs := [12]) (by kernel_rfl) (by simp) ?_
          refine consL rfl (fun K hK => ?_) AllReadyH.nil
          have c0 := hp.c0
          have c1 := hp.c1
          have c2 := hp.c2
          have c3 := hp.c3
          have fz := hp.fz
          go_simp
          have kz := (((k0psve.setCell (p := ⟨P, 0, none⟩) hPw (.int .i64 0)).setCell (p := ⟨P, 1, none⟩) hPw (.slice (some ⟨eb, 0, none⟩) 0 0)).setCell (p := ⟨P, 2, none⟩) hPw (.slice (some ⟨vb, 0, none⟩) 3 3)).setCell (p := ⟨P, 3, none⟩) hPw (.slice (some ⟨sb, 0, none⟩) 0 0)
          have hq := (((hp.set0 (.int .i64 0)).set1 (.slice (some ⟨eb, 0, none⟩) 0 0)).set2 (.slice (some ⟨vb, 0, none⟩) 3 3)).set3 (.slice (some ⟨sb, 0, none⟩) 0 0)
          have hv := row_set (row_set (row_set (row_set hv hne 0 (.int .i64 0)) hne 1 (.slice (some ⟨eb, 0, none⟩) 0 0)) hne 2 (.slice (some ⟨vb, 0, none⟩) 3 3)) hne 3 (.slice (some ⟨sb, 0, none⟩) 0 0)
          clear c0 c1 c2 c3 fz
          refine hK.out _ _ (HMK.out _ kz) (fun hHeld => ?_)
          clear hK K
          try go_frame
          refine wpAnyH_done (by kernel_rfl) ?_ _
          go_wp2
          go_meet
          exact ⟨P, eb, vb, sb, _, rfl, hq, hv, hne, hPw, kz⟩
  case rest =>
    obtain ⟨P, eb, vb, sb, xs, rfl, hbox, hrow, hne, hPw, hbw⟩ := hcut
    have hvw : W0.heap.size ≤ vb := (hrow.lt vb rfl).1
    have a2 := cell_later hbw x2
    have a3 := cell_later hbw x3
    have a4 := cell_later hbw x4
    have za := World.block_lt_of_cell? _ _ a2
    simp only at za
    have HB0 : Hid (Box4 wc P (.int .i64 0) (.slice (some ⟨eb, 0, none⟩) 0 0) (.slice (some ⟨vb, 0, none⟩) 3 3) (.slice (some ⟨sb, 0, none⟩) 0 0) ∧ wc.ownsRow W0.heap.size 64 1 (.slice (some ⟨vb, 0, none⟩) 3 3) 3 xs ∧ Below W0.heap.size W0 wc) := ⟨hbox, hrow, hbw⟩
    clear k0 HMK CE hbox hrow hbw
    go_wp2
    go_loopw [19] (fun iv wr => ∃ (k : Nat) (xs : List Value), k ≤ 3 ∧ iv = .int .i64 k ∧ Box4 wr P (.int .i64 0) (.slice (some ⟨eb, 0, none⟩) 0 0) (.slice (some ⟨vb, 0, none⟩) 3 3) (.slice (some ⟨sb, 0, none⟩) 0 0) ∧ wr.ownsRow W0.heap.size 64 1 (.slice (some ⟨vb, 0, none⟩) 3 3) 3 xs ∧ Below W0.heap.size W0 wr ∧ Has0 xs k) (fun iv _ => 3 - (intOf iv).toNat)
    case atStart => exact ⟨0, xs, by omega, rfl, HB0.out.1, HB0.out.2.1, HB0.out.2.2, fun j hj => absurd hj (Nat.not_lt_zero _)⟩
    case round =>
      obtain ⟨k, xs, hk, rfl, hbox, hrow, hbw, hhas⟩ := hrel
      have HAS : Hid (Has0 xs k) := hhas
      have HBW : Hid (Below W0.heap.size W0 wr) := hbw
      clear hhas a2 a3 a4 za
      have k0 : Below wr.heap.size wr wr.drew := (Below.refl _ wr).drew
      have HM5 : Hid (∀ w', Below wr.heap.size wr w' → (w'.cell? ⟨P, 2, none⟩ = some (.slice (some ⟨vb, 0, none⟩) 3 3) ∧ P < w'.heap.size ∧ vb < w'.heap.size)) := fun w' kk => ⟨cell_later kk hbox.c2, Nat.lt_of_lt_of_le hbox.lt kk.size, Nat.lt_of_lt_of_le (hrow.lt vb rfl).2 kk.size⟩
      have HS5 : Hid (∀ w' o u, Below wr.heap.size wr w' → ((w'.setCell ⟨vb, o, none⟩ u).cell? ⟨P, 2, none⟩ = some (.slice (some ⟨vb, 0, none⟩) 3 3) ∧ P < (w'.setCell ⟨vb, o, none⟩ u).heap.size ∧ vb < (w'.setCell ⟨vb, o, none⟩ u).heap.size)) := fun w' o u kk => ⟨(cell_elsewhere u (fun e => hne e.1.symm)).trans (cell_later kk hbox.c2), by simpa [World.setCell] using Nat.lt_of_lt_of_le hbox.lt kk.size, by simpa [World.setCell] using Nat.lt_of_lt_of_le (hrow.lt vb rfl).2 kk.size⟩
      have hcase : k = 0 ∨ k = 1 ∨ k = 2 ∨ k = 3 := by omega
      rcases hcase with rfl | rfl | rfl | rfl
      · have hix := fun w => idx_nil w 0 (by omega) (by omega)
        go_wp2_with fail
        refine wp_region_held_drew (S := (fun w' => w'.cell? ⟨P, 2, none⟩ = some (.slice (some ⟨vb, 0, none⟩) 3 3) ∧ P < w'.heap.size ∧ vb < w'.heap.size)) (by kernel_rfl) (HM5.out _ k0) (fun hHeld => ?_)
        refine wpAnyH_takeL (i := 0) (v := ?_) rfl (by kernel_rfl) (by kernel_rfl) (by kernel_rfl) (fun _ _ _ h => h) (Or.inl ⟨by rfl, ?_⟩) hHeld ?_
        rotate_left
        · (intro w hSw; (try dsimp only at hSw); go_simp; try with_reducible rfl)
        try go_frame
        refine wpAnyH_takeL (i := 1) (v := ?_) rfl (by kernel_rfl) (by kernel_rfl) (by kernel_rfl) (fun _ _ _ h => h) (Or.inl ⟨by rfl, ?_⟩) hHeld ?_
        rotate_left
        · (intro w hSw; (try dsimp only at hSw); go_simp; try with_reducible rfl)
        try go_frame
        refine wpAnyH_takeL (i := 2) (v := ?_) rfl (by kernel_rfl) (by kernel_rfl) (by kernel_rfl) (fun _ _ _ h => h) (Or.inl ⟨by rfl, ?_⟩) hHeld ?_
        rotate_left
        · (intro w hSw; (try dsimp only at hSw); go_simp; try with_reducible rfl)
        try go_frame
        refine wpAnyH_takeL (i := 3) (v := ?_) rfl (by kernel_rfl) (by kernel_rfl) (by kernel_rfl) (fun _ _ _ h => h) (Or.inl ⟨by rfl, ?_⟩) hHeld ?_
        rotate_left
        · (intro w hSw; (try dsimp only at hSw); go_simp; try with_reducible rfl)
        try go_frame
        refine wpAnyH_ready (rs := [4]) (by kernel_rfl) (by simp) ?_
        refine consL rfl (fun K hK => ?_) AllReadyH.nil
        go_simp
        refine (CR.out _).mono ?_
        rintro e w1 ⟨rb, rfl, br⟩
        have k1 : Below wr.heap.size wr w1 := k0.trans (br.mono k0.size)
        clear br
        go_wp2_with fail
        refine hK.out _ _ (HM5.out _ k1) (fun hHeld => ?_)
        clear hK K
        try go_frame
        refine wpAnyH_takeL (i := 5) (v := ?_) rfl (by kernel_rfl) (by kernel_rfl) (by kernel_rfl) (fun _ _ _ h => h) (Or.inl ⟨by rfl, ?_⟩) hHeld ?_
        rotate_left
        · (intro w hSw; (try dsimp only at hSw); go_simp; try with_reducible rfl)
        try go_frame
        refine wpAnyH_ready (rs := [6]) (by kernel_rfl) (by simp) ?_
        refine consL rfl (fun K hK => ?_) AllReadyH.nil
        have hr1 := row_keep hrow k1
        have c0 : ∃ v, w1.cell? ⟨vb, 0, none⟩ = some v := ⟨_, (hr1.cellAt 0 (by omega)).trans (List.getElem?_eq_getElem (by rw [hr1.1]; omega))⟩
        obtain ⟨v0, c0⟩ := c0
        have f0 := hr1.frozenAt 0
        go_simp
        refine hK.out _ _ (HS5.out _ _ _ k1) (fun hHeld => ?_)
        clear hK K
        try go_frame
        refine wpAnyH_done (by kernel_rfl) ?_ _
        have t0 := (hr1.stored 0 (.slice (some ⟨rb, 0, none⟩) 0 0)).1
        have hx3 := hr1.1
        have bq := (hbox.keep k1).other (b' := vb) (o := 0) hne (.slice (some ⟨rb, 0, none⟩) 0 0)
        have kq : Below W0.heap.size W0 (w1.setCell ⟨vb, 0, none⟩ (.slice (some ⟨rb, 0, none⟩) 0 0)) := (HBW.out.trans (k1.mono HBW.out.size)).setCell (p := ⟨vb, 0, none⟩) hvw _
        have HT : Hid (_ ∧ _ ∧ _) := ⟨bq, t0, kq⟩
        clear hHeld k0 k1 HM5 HS5 c0 f0 hr1 t0 bq kq hbox hrow
        go_wp2
        go_roundw
        case rel => exact ⟨0 + 1, _, by omega, by go_num, HT.out.1, HT.out.2.1, HT.out.2.2, has_next HAS.out hx3⟩
        case measure => simp [intOf]
      · have hix := fun w => idx_nil w 1 (by omega) (by omega)
        go_wp2_with fail
        refine wp_region_held_drew (S := (fun w' => w'.cell? ⟨P, 2, none⟩ = some (.slice (some ⟨vb, 0, none⟩) 3 3) ∧ P < w'.heap.size ∧ vb < w'.heap.size)) (by kernel_rfl) (HM5.out _ k0) (fun hHeld => ?_)
        refine wpAnyH_takeL (i := 0) (v := ?_) rfl (by kernel_rfl) (by kernel_rfl) (by kernel_rfl) (fun _ _ _ h => h) (Or.inl ⟨by rfl, ?_⟩) hHeld ?_
        rotate_left
        · (intro w hSw; (try dsimp only at hSw); go_simp; try with_reducible rfl)
        try go_frame
        refine wpAnyH_takeL (i := 1) (v := ?_) rfl (by kernel_rfl) (by kernel_rfl) (by kernel_rfl) (fun _ _ _ h => h) (Or.inl ⟨by rfl, ?_⟩) hHeld ?_
        rotate_left
        · (intro w hSw; (try dsimp only at hSw); go_simp; try with_reducible rfl)
        try go_frame
        refine wpAnyH_takeL (i := 2) (v := ?_) rfl (by kernel_rfl) (by kernel_rfl) (by kernel_rfl) (fun _ _ _ h => h) (Or.inl ⟨by rfl, ?_⟩) hHeld ?_
        rotate_left
        · (intro w hSw; (try dsimp only at hSw); go_simp; try with_reducible rfl)
        try go_frame
        refine wpAnyH_takeL (i := 3) (v := ?_) rfl (by kernel_rfl) (by kernel_rfl) (by kernel_rfl) (fun _ _ _ h => h) (Or.inl ⟨by rfl, ?_⟩) hHeld ?_
        rotate_left
        · (intro w hSw; (try dsimp only at hSw); go_simp; try with_reducible rfl)
        try go_frame
        refine wpAnyH_ready (rs := [4]) (by kernel_rfl) (by simp) ?_
        refine consL rfl (fun K hK => ?_) AllReadyH.nil
        go_simp
        refine (CR.out _).mono ?_
        rintro e w1 ⟨rb, rfl, br⟩
        have k1 : Below wr.heap.size wr w1 := k0.trans (br.mono k0.size)
        clear br
        go_wp2_with fail
        refine hK.out _ _ (HM5.out _ k1) (fun hHeld => ?_)
        clear hK K
        try go_frame
        refine wpAnyH_takeL (i := 5) (v := ?_) rfl (by kernel_rfl) (by kernel_rfl) (by kernel_rfl) (fun _ _ _ h => h) (Or.inl ⟨by rfl, ?_⟩) hHeld ?_
        rotate_left
        · (intro w hSw; (try dsimp only at hSw); go_simp; try with_reducible rfl)
        try go_frame
        refine wpAnyH_ready (rs := [6]) (by kernel_rfl) (by simp) ?_
        refine consL rfl (fun K hK => ?_) AllReadyH.nil
        have hr1 := row_keep hrow k1
        have c0 : ∃ v, w1.cell? ⟨vb, 1, none⟩ = some v := ⟨_, (hr1.cellAt 1 (by omega)).trans (List.getElem?_eq_getElem (by rw [hr1.1]; omega))⟩
        obtain ⟨v0, c0⟩ := c0
        have f0 := hr1.frozenAt 1
        go_simp
        refine hK.out _ _ (HS5.out _ _ _ k1) (fun hHeld => ?_)
        clear hK K
        try go_frame
        refine wpAnyH_done (by kernel_rfl) ?_ _
        have t0 := (hr1.stored 1 (.slice (some ⟨rb, 0, none⟩) 0 0)).1
        have hx3 := hr1.1
        have bq := (hbox.keep k1).other (b' := vb) (o := 1) hne (.slice (some ⟨rb, 0, none⟩) 0 0)
        have kq : Below W0.heap.size W0 (w1.setCell ⟨vb, 1, none⟩ (.slice (some ⟨rb, 0, none⟩) 0 0)) := (HBW.out.trans (k1.mono HBW.out.size)).setCell (p := ⟨vb, 1, none⟩) hvw _
        have HT : Hid (_ ∧ _ ∧ _) := ⟨bq, t0, kq⟩
        clear hHeld k0 k1 HM5 HS5 c0 f0 hr1 t0 bq kq hbox hrow
        go_wp2
        go_roundw
        case rel => exact ⟨1 + 1, _, by omega, by go_num, HT.out.1, HT.out.2.1, HT.out.2.2, has_next HAS.out hx3⟩
        case measure => simp [intOf]
      · have hix := fun w => idx_nil w 2 (by omega) (by omega)
        go_wp2_with fail
        refine wp_region_held_drew (S := (fun w' => w'.cell? ⟨P, 2, none⟩ = some (.slice (some ⟨vb, 0, none⟩) 3 3) ∧ P < w'.heap.size ∧ vb < w'.heap.size)) (by kernel_rfl) (HM5.out _ k0) (fun hHeld => ?_)
        refine wpAnyH_takeL (i := 0) (v := ?_) rfl (by kernel_rfl) (by kernel_rfl) (by kernel_rfl) (fun _ _ _ h => h) (Or.inl ⟨by rfl, ?_⟩) hHeld ?_
        rotate_left
        · (intro w hSw; (try dsimp only at hSw); go_simp; try with_reducible rfl)
        try go_frame
        refine wpAnyH_takeL (i := 1) (v := ?_) rfl (by kernel_rfl) (by kernel_rfl) (by kernel_rfl) (fun _ _ _ h => h) (Or.inl ⟨by rfl, ?_⟩) hHeld ?_
        rotate_left
        · (intro w hSw; (try dsimp only at hSw); go_simp; try with_reducible rfl)
        try go_frame
        refine wpAnyH_takeL (i := 2) (v := ?_) rfl (by kernel_rfl) (by kernel_rfl) (by kernel_rfl) (fun _ _ _ h => h) (Or.inl ⟨by rfl, ?_⟩) hHeld ?_
        rotate_left
        · (intro w hSw; (try dsimp only at hSw); go_simp; try with_reducible rfl)
        try go_frame
        refine wpAnyH_takeL (i := 3) (v := ?_) rfl (by kernel_rfl) (by kernel_rfl) (by kernel_rfl) (fun _ _ _ h => h) (Or.inl ⟨by rfl, ?_⟩) hHeld ?_
        rotate_left
        · (intro w hSw; (try dsimp only at hSw); go_simp; try with_reducible rfl)
        try go_frame
        refine wpAnyH_ready (rs := [4]) (by kernel_rfl) (by simp) ?_
        refine consL rfl (fun K hK => ?_) AllReadyH.nil
        go_simp
        refine (CR.out _).mono ?_
        rintro e w1 ⟨rb, rfl, br⟩
        have k1 : Below wr.heap.size wr w1 := k0.trans (br.mono k0.size)
        clear br
        go_wp2_with fail
        refine hK.out _ _ (HM5.out _ k1) (fun hHeld => ?_)
        clear hK K
        try go_frame
        refine wpAnyH_takeL (i := 5) (v := ?_) rfl (by kernel_rfl) (by kernel_rfl) (by kernel_rfl) (fun _ _ _ h => h) (Or.inl ⟨by rfl, ?_⟩) hHeld ?_
        rotate_left
        · (intro w hSw; (try dsimp only at hSw); go_simp; try with_reducible rfl)
        try go_frame
        refine wpAnyH_ready (rs := [6]) (by kernel_rfl) (by simp) ?_
        refine consL rfl (fun K hK => ?_) AllReadyH.nil
        have hr1 := row_keep hrow k1
        have c0 : ∃ v, w1.cell? ⟨vb, 2, none⟩ = some v := ⟨_, (hr1.cellAt 2 (by omega)).trans (List.getElem?_eq_getElem (by rw [hr1.1]; omega))⟩
        obtain ⟨v0, c0⟩ := c0
        have f0 := hr1.frozenAt 2
        go_simp
        refine hK.out _ _ (HS5.out _ _ _ k1) (fun hHeld => ?_)
        clear hK K
        try go_frame
        refine wpAnyH_done (by kernel_rfl) ?_ _
        have t0 := (hr1.stored 2 (.slice (some ⟨rb, 0, none⟩) 0 0)).1
        have hx3 := hr1.1
        have bq := (hbox.keep k1).other (b' := vb) (o := 2) hne (.slice (some ⟨rb, 0, none⟩) 0 0)
        have kq : Below W0.heap.size W0 (w1.setCell ⟨vb, 2, none⟩ (.slice (some ⟨rb, 0, none⟩) 0 0)) := (HBW.out.trans (k1.mono HBW.out.size)).setCell (p := ⟨vb, 2, none⟩) hvw _
        have HT : Hid (_ ∧ _ ∧ _) := ⟨bq, t0, kq⟩
        clear hHeld k0 k1 HM5 HS5 c0 f0 hr1 t0 bq kq hbox hrow
        go_wp2
        go_roundw
        case rel => exact ⟨2 + 1, _, by omega, by go_num, HT.out.1, HT.out.2.1, HT.out.2.2, has_next HAS.out hx3⟩
        case measure => simp [intOf]
      · have y5 := cell_later hbw x5
        have zy := World.block_lt_of_cell? _ _ y5
        simp only at zy
        have c0 := hbox.c0
        have c1 := hbox.c1
        have c2 := hbox.c2
        have c3 := hbox.c3
        have zp := hbox.lt
        have bq := BR.out.keep hbw
        have d0 := bq.c0
        have d1 := bq.c1
        have d2 := bq.c2
        have d3 := bq.c3
        have df := bq.fz
        have zd := bq.lt
        have HROW : Hid (wr.ownsRow W0.heap.size 64 1 (.slice (some ⟨vb, 0, none⟩) 3 3) 3 xs) := hrow
        have HBQ : Hid (Box4 wr (X + 1) (.int .i64 0) (.slice none 0 0) (.slice none 0 0) (.slice none 0 0)) := bq
        clear hrow hbox bq HM5 HS5 k0 hbw
        have hcp := fun w => run_copy_none (P := Tryz.prog) w 24 24 3 3 (some ⟨sb, 0, none⟩) none 0 0 0 0 Tryz.underlying24 (by kernel_rfl) rfl
        go_wp2
        refine bodyPost_ret (v := .agg #[.int .i64 0, .slice (some ⟨eb, 0, none⟩) 0 0, .slice (some ⟨vb, 0, none⟩) 3 3, .slice (some ⟨sb, 0, none⟩) 0 0]) ?_ rfl ⟨eb, vb, sb, rfl, ⟨ents_none _ _ _, ?_, ints_none _ _ _⟩, ?_⟩
        · have e := (((HBQ.out.set0 (.int .i64 0)).set1 (.slice (some ⟨eb, 0, none⟩) 0 0)).set2 (.slice (some ⟨vb, 0, none⟩) 3 3)).set3 (.slice (some ⟨sb, 0, none⟩) 0 0)
          simp [results, Tryz.results79, go_sem, e.c0, e.c1, e.c2, e.c3]
        · have hvX : vb ≠ X + 1 := by have := hvw; omega
          have r4 := row_set (row_set (row_set (row_set HROW.out hvX 0 (.int .i64 0)) hvX 1 (.slice (some ⟨eb, 0, none⟩) 0 0)) hvX 2 (.slice (some ⟨vb, 0, none⟩) 3 3)) hvX 3 (.slice (some ⟨sb, 0, none⟩) 0 0)
          exact levels_none r4 (by have := hvw; have := HXW.out; omega) HAS.out
        · have hx : w.heap.size ≤ X + 1 := by have := HXW.out; omega
          exact ((((KW.out.trans (HBW.out.mono KW.out.size)).setCell (p := ⟨X + 1, 0, none⟩) hx _).setCell (p := ⟨X + 1, 1, none⟩) hx _).setCell (p := ⟨X + 1, 2, none⟩) hx _).setCell (p := ⟨X + 1, 3, none⟩) hx _
end Go.Proofs.YtlmgojlffgkciaaGreat
