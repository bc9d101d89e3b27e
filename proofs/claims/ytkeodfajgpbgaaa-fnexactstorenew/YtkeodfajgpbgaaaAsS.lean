/-
  What the program's asStore makes of any store: the same in new memory; by a walk of its Go text.
-/
import Derived.Test.YtkeodfajgpbgaaaAsD
import Derived.Test.YtkeodfajgpbgaaaStore0
namespace Go.Proofs.Ytkeodfajgpbgaaa
open Go.RowKit

theorem grown_refl (w : World) (P : Nat) : w.grownBy w (some P) := ⟨rfl, rfl, rfl, Nat.le_refl _, fun _ _ _ => rfl⟩
theorem grownP_trans {a b c : World} {r : Option Nat} (h : a.grownBy b r) (k : b.grownBy c r) : a.grownBy c r := ⟨k.os.trans h.os, k.tape.trans h.tape, k.output.trans h.output, Nat.le_trans h.size k.size, fun i hi hr => (k.block i (Nat.lt_of_lt_of_le hi h.size) hr).trans (h.block i hi hr)⟩
theorem grown_set {w w' : World} {P : Nat} (h : w.grownBy w' (some P)) (o : Nat) (u : Value) : w.grownBy (w'.setCell ⟨P, o, none⟩ u) (some P) :=
  grownP_trans h ⟨rfl, rfl, rfl, by simp [World.setCell], fun k _ hk => Below.heap_setCell _ _ _ k (fun e => hk (by rw [e]))⟩
theorem same_of_grown {w w' : World} {P lo : Nat} (h : w.grownBy w' (some P)) (hP : P < lo) : Same lo w w' := ⟨h.size, fun b o hb hl => World.cell?_of_block (a := ⟨b, o, none⟩) (h.block b hl (fun e => by cases e; omega))⟩
theorem below_of_grown {w w1 w' : World} (hb : Below w.heap.size w w1) (h : w1.grownBy w' (some w.heap.size)) : Below w.heap.size w w' :=
  hb.trans ⟨h.os, h.tape, h.output, h.size, fun k hk => h.block k (Nat.lt_of_lt_of_le hk hb.size) (fun e => by cases e; omega)⟩
theorem grown_row {w w' : World} {P : Nat} (h : Below w.heap.size w w') : w.grownBy w' (some P) := ⟨h.os, h.tape, h.output, h.size, fun k hk _ => h.block k hk⟩

/-- What is handed out of a store that is up. -/
def AsUR (q : Int) (nm nk : Nat) (M : List EntD) (V : List (List RunD)) (S : List Int) (lg : ByteArray) (sf sd : Int) (U : List (List RunD)) (w : World) (e : Ending) (w' : World) : Prop :=
  ∃ eb vb sb ub : Nat, e = .returned (.agg #[.bool true, .int .i64 q, .slice (some ⟨eb, 0, none⟩) nm nm, .slice (some ⟨vb, 0, none⟩) 3 3, .slice (some ⟨sb, 0, none⟩) nk nk, .string lg, .int .i64 sf, .slice (some ⟨ub, 0, none⟩) 3 3, .int .i64 sd]) ∧ StoreIn w.heap.size w' (some ⟨eb, 0, none⟩) nm nm (some ⟨vb, 0, none⟩) 3 3 (some ⟨sb, 0, none⟩) nk nk (some ⟨ub, 0, none⟩) 3 3 M V S U ∧ Below w.heap.size w w'
/-- And of one that is not. -/
def AsNR (lg : ByteArray) (sf sd : Int) (U : List (List RunD)) (w : World) (e : Ending) (w' : World) : Prop :=
  ∃ ub : Nat, e = .returned (.agg #[.bool false, .int .i64 0, .slice none 0 0, .slice none 0 0, .slice none 0 0, .string lg, .int .i64 sf, .slice (some ⟨ub, 0, none⟩) 3 3, .int .i64 sd]) ∧ LevelsIn w.heap.size w' (some ⟨ub, 0, none⟩) 3 3 U ∧ Below w.heap.size w w'

set_option maxRecDepth 100000 in
set_option maxHeartbeats 16000000 in
theorem asStore_any (up : Bool) (q : Int) (am ak : Option Addr) (nm cm nk ck : Nat) (a0 a1 a2 : Option Addr) (n0 c0 n1 c1 n2 c2 : Nat) (M : List EntD) (A B C : List RunD) (S : List Int) (lg : ByteArray) (sf sd : Int) (d0 d1 d2 : Option Addr) (m0 e0 m1 e1 m2 e2 : Nat) (U : List (List RunD)) (w : World)
    (HT : ∀ w', Below w.heap.size w w' → Calls Try.prog 148 #[.agg #[.int .i64 q, .slice am nm cm, .slice a0 n0 c0, .slice a1 n1 c1, .slice a2 n2 c2, .slice ak nk ck]] w' (AsR q nm nk M [A, B, C] S w'))
    (HD : ∀ w', Below w.heap.size w w' → Calls Try.prog 147 #[.agg #[.string lg, .int .i64 sf, .slice d0 m0 e0, .slice d1 m1 e1, .slice d2 m2 e2, .int .i64 sd]] w' (AsDR lg sf sd U w')) :
    Calls Try.prog 80 #[.agg #[.bool up, .int .i64 q, .slice am nm cm, .slice a0 n0 c0, .slice a1 n1 c1, .slice a2 n2 c2, .slice ak nk ck, .string lg, .int .i64 sf, .slice d0 m0 e0, .slice d1 m1 e1, .slice d2 m2 e2, .int .i64 sd]] w fun e w' => (up = true → AsUR q nm nk M [A, B, C] S lg sf sd U w e w') ∧ (up = false → AsNR lg sf sd U w e w') := by
  obtain ⟨X, hX⟩ : ∃ X, X = w.heap.size := ⟨_, rfl⟩
  obtain ⟨W0, hW0⟩ : ∃ W0, W0 = (w.alloc (.cells #[.bool up, .int .i64 q, .slice am nm cm, .slice a0 n0 c0, .slice a1 n1 c1, .slice a2 n2 c2, .slice ak nk ck, .string lg, .int .i64 sf, .slice d0 m0 e0, .slice d1 m1 e1, .slice d2 m2 e2, .int .i64 sd] 123)).alloc (.cells #[.bool false, .int .i64 0, .slice none 0 0, .slice none 0 0, .slice none 0 0, .string ⟨#[]⟩, .int .i64 0, .slice none 0 0, .int .i64 0] 39) := ⟨_, rfl⟩
  have kW : Below w.heap.size w W0 := by rw [hW0]; exact ((Below.refl _ _).alloc (Nat.le_refl _) _).alloc (by simp) _
  have x0 : W0.cell? ⟨X, 0, none⟩ = some (.bool up) := by rw [hW0, hX]; simp
  have x1 : W0.cell? ⟨X, 1, none⟩ = some (.int .i64 q) := by rw [hW0, hX]; simp
  have x2 : W0.cell? ⟨X, 2, none⟩ = some (.slice am nm cm) := by rw [hW0, hX]; simp
  have x3 : W0.cell? ⟨X, 3, none⟩ = some (.slice a0 n0 c0) := by rw [hW0, hX]; simp
  have x4 : W0.cell? ⟨X, 4, none⟩ = some (.slice a1 n1 c1) := by rw [hW0, hX]; simp
  have x5 : W0.cell? ⟨X, 5, none⟩ = some (.slice a2 n2 c2) := by rw [hW0, hX]; simp
  have x6 : W0.cell? ⟨X, 6, none⟩ = some (.slice ak nk ck) := by rw [hW0, hX]; simp
  have x7 : W0.cell? ⟨X, 7, none⟩ = some (.string lg) := by rw [hW0, hX]; simp
  have x8 : W0.cell? ⟨X, 8, none⟩ = some (.int .i64 sf) := by rw [hW0, hX]; simp
  have x9 : W0.cell? ⟨X, 9, none⟩ = some (.slice d0 m0 e0) := by rw [hW0, hX]; simp
  have x10 : W0.cell? ⟨X, 10, none⟩ = some (.slice d1 m1 e1) := by rw [hW0, hX]; simp
  have x11 : W0.cell? ⟨X, 11, none⟩ = some (.slice d2 m2 e2) := by rw [hW0, hX]; simp
  have x12 : W0.cell? ⟨X, 12, none⟩ = some (.int .i64 sd) := by rw [hW0, hX]; simp
  have br : Box9 W0 (X + 1) (.bool false) (.int .i64 0) (.slice none 0 0) (.slice none 0 0) (.slice none 0 0) (.string ⟨#[]⟩) (.int .i64 0) (.slice none 0 0) (.int .i64 0) := by
    have := Box9.new (w.alloc (.cells #[.bool up, .int .i64 q, .slice am nm cm, .slice a0 n0 c0, .slice a1 n1 c1, .slice a2 n2 c2, .slice ak nk ck, .string lg, .int .i64 sf, .slice d0 m0 e0, .slice d1 m1 e1, .slice d2 m2 e2, .int .i64 sd] 123)) 39 (.bool false) (.int .i64 0) (.slice none 0 0) (.slice none 0 0) (.slice none 0 0) (.string ⟨#[]⟩) (.int .i64 0) (.slice none 0 0) (.int .i64 0)
    rw [World.size_alloc] at this
    rw [hW0, hX]
    exact this
  have hsz : W0.heap.size = X + 1 + 1 := by rw [hW0, hX]; simp
  have BR : Hid (Box9 W0 (X + 1) (.bool false) (.int .i64 0) (.slice none 0 0) (.slice none 0 0) (.slice none 0 0) (.string ⟨#[]⟩) (.int .i64 0) (.slice none 0 0) (.int .i64 0)) := br
  have HXW : Hid (X = w.heap.size) := hX
  have HSZ : Hid (W0.heap.size = X + 1 + 1) := hsz
  have KW : Hid (Below w.heap.size w W0) := kW
  have CT : Hid (∀ w', Below W0.heap.size W0 w' → Calls Try.prog 148 #[.agg #[.int .i64 q, .slice am nm cm, .slice a0 n0 c0, .slice a1 n1 c1, .slice a2 n2 c2, .slice ak nk ck]] w' (AsR q nm nk M [A, B, C] S w')) := fun w' k => HT w' (kW.trans (k.mono kW.size))
  have CD : Hid (∀ w', Below W0.heap.size W0 w' → Calls Try.prog 147 #[.agg #[.string lg, .int .i64 sf, .slice d0 m0 e0, .slice d1 m1 e1, .slice d2 m2 e2, .int .i64 sd]] w' (AsDR lg sf sd U w')) := fun w' k => HD w' (kW.trans (k.mono kW.size))
  have k0 : Below W0.heap.size W0 W0.drew := (Below.refl _ W0).drew
  have HMK : Hid (∀ w', Below W0.heap.size W0 w' → (w'.cell? ⟨X, 0, none⟩ = some (.bool up) ∧ w'.cell? ⟨X, 7, none⟩ = some (.string lg) ∧ w'.cell? ⟨X, 8, none⟩ = some (.int .i64 sf) ∧ w'.cell? ⟨X, 9, none⟩ = some (.slice d0 m0 e0) ∧ w'.cell? ⟨X, 10, none⟩ = some (.slice d1 m1 e1) ∧ w'.cell? ⟨X, 11, none⟩ = some (.slice d2 m2 e2) ∧ w'.cell? ⟨X, 12, none⟩ = some (.int .i64 sd) ∧ X < w'.heap.size)) := fun w' kk => ⟨cell_later kk x0, cell_later kk x7, cell_later kk x8, cell_later kk x9, cell_later kk x10, cell_later kk x11, cell_later kk x12, World.block_lt_of_cell? _ _ (cell_later kk x0)⟩
  clear br kW HT HD hsz
  go_enter Try.func80, Try.ntmps80
  go_upto_region 1 with fail
  rw [← hX, ← hW0]
  clear hX hW0
  go_cut [3] (fun s3 wx => ∃ (P ub : Nat), s3 = .pointer (some ⟨P, 0, none⟩) ∧ Box9 wx P (.bool up) (.int .i64 0) (.slice none 0 0) (.slice none 0 0) (.slice none 0 0) (.string lg) (.int .i64 sf) (.slice (some ⟨ub, 0, none⟩) 3 3) (.int .i64 sd) ∧ (∀ w', wx.grownBy w' (some P) → LevelsIn W0.heap.size w' (some ⟨ub, 0, none⟩) 3 3 U) ∧ W0.heap.size ≤ P ∧ Below W0.heap.size W0 wx)
  case first =>
    refine wp_region_held_drew (S := (fun w' => w'.cell? ⟨X, 0, none⟩ = some (.bool up) ∧ w'.cell? ⟨X, 7, none⟩ = some (.string lg) ∧ w'.cell? ⟨X, 8, none⟩ = some (.int .i64 sf) ∧ w'.cell? ⟨X, 9, none⟩ = some (.slice d0 m0 e0) ∧ w'.cell? ⟨X, 10, none⟩ = some (.slice d1 m1 e1) ∧ w'.cell? ⟨X, 11, none⟩ = some (.slice d2 m2 e2) ∧ w'.cell? ⟨X, 12, none⟩ = some (.int .i64 sd) ∧ X < w'.heap.size)) (by kernel_rfl) (HMK.out _ k0) (fun hHeld => ?_)
    generalize W0.drew = wd at k0 hHeld ⊢
    refine wpAnyH_takeL (i := 0) (v := ?_) rfl (by kernel_rfl) (by kernel_rfl) (by kernel_rfl) (fun _ _ _ h => h) (Or.inl ⟨by rfl, ?_⟩) hHeld ?_
    rotate_left
    · (intro w hSw; (try dsimp only at hSw); go_simp; try with_reducible rfl)
    try go_frame
    refine wpAnyH_takeL (i := 1) (v := ?_) rfl (by kernel_rfl) (by kernel_rfl) (by kernel_rfl) (fun _ _ _ h => h) (Or.inl ⟨by rfl, ?_⟩) hHeld ?_
    rotate_left
    · (intro w hSw; (try dsimp only at hSw); go_simp; try with_reducible rfl)
    try go_frame
    refine wpAnyH_takeL (i := 2) (v := ?_) rfl (by kernel_rfl) (by kernel_rfl) (by kernel_rfl) (fun _ _ _ h => h) (Or.inl ⟨by rfl, ?_⟩) hHeld ?_
    rotate_left
    · (intro w hSw; (try dsimp only at hSw); go_simp; try with_reducible rfl)
    try go_frame
    refine wpAnyH_takeL (i := 3) (v := ?_) rfl (by kernel_rfl) (by kernel_rfl) (by kernel_rfl) (fun _ _ _ h => h) (Or.inl ⟨by rfl, ?_⟩) hHeld ?_
    rotate_left
    · (intro w hSw; (try dsimp only at hSw); go_simp; try with_reducible rfl)
    try go_frame
    refine wpAnyH_ready (rs := [4, 6]) (by kernel_rfl) (by simp) ?_
    refine consL rfl (fun K hK => ?_) (consL rfl (fun K hK => ?_) AllReadyH.nil)
    · go_simp
      refine (CD.out _ k0).mono ?_
      rintro e we ⟨ub, rfl, hU0, be⟩
      have k0e : Below W0.heap.size W0 we := k0.trans (be.mono k0.size)
      have hU : LevelsIn W0.heap.size we (some ⟨ub, 0, none⟩) 3 3 U := hU0.mono k0.size
      clear be hU0
      go_wp2_with fail
      refine hK.out _ _ (HMK.out _ k0e) (fun hHeld => ?_)
      clear hK K
      try go_frame
      refine wpAnyH_takeL (i := 5) (v := ?_) rfl (by kernel_rfl) (by kernel_rfl) (by kernel_rfl) (fun _ _ _ h => h) (Or.inl ⟨by rfl, ?_⟩) hHeld ?_
      rotate_left
      · (intro w hSw; (try dsimp only at hSw); go_simp; try with_reducible rfl)
      try go_frame
      refine wpAnyH_ready (rs := [6]) (by kernel_rfl) (by simp) ?_
      refine consL rfl (fun K hK => ?_) AllReadyH.nil
      go_simp
      have bp : Below we.heap.size we (we.alloc (.cells #[.bool false, .int .i64 0, .slice none 0 0, .slice none 0 0, .slice none 0 0, .string ⟨#[]⟩, .int .i64 0, .slice none 0 0, .int .i64 0] 39)) := (Below.refl _ _).alloc (Nat.le_refl _) _
      have hp := Box9.new we 39 (.bool false) (.int .i64 0) (.slice none 0 0) (.slice none 0 0) (.slice none 0 0) (.string ⟨#[]⟩) (.int .i64 0) (.slice none 0 0) (.int .i64 0)
      have k0ep : Below W0.heap.size W0 (we.alloc (.cells #[.bool false, .int .i64 0, .slice none 0 0, .slice none 0 0, .slice none 0 0, .string ⟨#[]⟩, .int .i64 0, .slice none 0 0, .int .i64 0] 39)) := k0e.trans (bp.mono k0e.size)
      have hU : ∀ w', (we.alloc (.cells #[.bool false, .int .i64 0, .slice none 0 0, .slice none 0 0, .slice none 0 0, .string ⟨#[]⟩, .int .i64 0, .slice none 0 0, .int .i64 0] 39)).grownBy w' (some we.heap.size) → LevelsIn W0.heap.size w' (some ⟨ub, 0, none⟩) 3 3 U := fun w' hg => hU.keep (below_of_grown bp hg)
      have hPw : W0.heap.size ≤ we.heap.size := k0e.size
      generalize we.alloc (.cells #[.bool false, .int .i64 0, .slice none 0 0, .slice none 0 0, .slice none 0 0, .string ⟨#[]⟩, .int .i64 0, .slice none 0 0, .int .i64 0] 39) = wp at hp k0ep bp hU ⊢
      generalize we.heap.size = P at hp hPw hU ⊢
      clear bp
      refine hK.out _ _ (HMK.out _ k0ep) (fun hHeld => ?_)
      clear hK K
      try go_frame
      refine wpAnyH_ready (rs := [7]) (by kernel_rfl) (by simp) ?_
      refine consL rfl (fun K hK => ?_) AllReadyH.nil
      have c0 := hp.c0
      have c1 := hp.c1
      have c2 := hp.c2
      have c3 := hp.c3
      have c4 := hp.c4
      have c5 := hp.c5
      have c6 := hp.c6
      have c7 := hp.c7
      have c8 := hp.c8
      have fz := hp.fz
      have zp := hp.lt
      go_simp
      have kz := (((((((((k0ep.setCell (p := ⟨P, 0, none⟩) hPw (.bool up)).setCell (p := ⟨P, 1, none⟩) hPw (.int .i64 0)).setCell (p := ⟨P, 2, none⟩) hPw (.slice none 0 0)).setCell (p := ⟨P, 3, none⟩) hPw (.slice none 0 0)).setCell (p := ⟨P, 4, none⟩) hPw (.slice none 0 0)).setCell (p := ⟨P, 5, none⟩) hPw (.string lg)).setCell (p := ⟨P, 6, none⟩) hPw (.int .i64 sf)).setCell (p := ⟨P, 7, none⟩) hPw (.slice (some ⟨ub, 0, none⟩) 3 3)).setCell (p := ⟨P, 8, none⟩) hPw (.int .i64 sd))
      have hq := (((((((((hp.set0 (.bool up)).set1 (.int .i64 0)).set2 (.slice none 0 0)).set3 (.slice none 0 0)).set4 (.slice none 0 0)).set5 (.string lg)).set6 (.int .i64 sf)).set7 (.slice (some ⟨ub, 0, none⟩) 3 3)).set8 (.int .i64 sd))
      have hU := fun w' (hg : World.grownBy _ w' (some P)) => hU w' (grownP_trans ((grown_set ((grown_set ((grown_set ((grown_set ((grown_set ((grown_set ((grown_set ((grown_set ((grown_set (grown_refl wp P) 0 (.bool up))) 1 (.int .i64 0))) 2 (.slice none 0 0))) 3 (.slice none 0 0))) 4 (.slice none 0 0))) 5 (.string lg))) 6 (.int .i64 sf))) 7 (.slice (some ⟨ub, 0, none⟩) 3 3))) 8 (.int .i64 sd))) hg)
      clear c0 c1 c2 c3 c4 c5 c6 c7 c8 fz zp
      refine hK.out _ _ (HMK.out _ kz) (fun hHeld => ?_)
      clear hK K
      try go_frame
      refine wpAnyH_done (by kernel_rfl) ?_ _
      go_wp2
      go_meet
      exact ⟨P, ub, rfl, hq, hU, hPw, kz⟩
    · go_simp
      have bp : Below wd.heap.size wd (wd.alloc (.cells #[.bool false, .int .i64 0, .slice none 0 0, .slice none 0 0, .slice none 0 0, .string ⟨#[]⟩, .int .i64 0, .slice none 0 0, .int .i64 0] 39)) := (Below.refl _ _).alloc (Nat.le_refl _) _
      have hp := Box9.new wd 39 (.bool false) (.int .i64 0) (.slice none 0 0) (.slice none 0 0) (.slice none 0 0) (.string ⟨#[]⟩) (.int .i64 0) (.slice none 0 0) (.int .i64 0)
      have k0p : Below W0.heap.size W0 (wd.alloc (.cells #[.bool false, .int .i64 0, .slice none 0 0, .slice none 0 0, .slice none 0 0, .string ⟨#[]⟩, .int .i64 0, .slice none 0 0, .int .i64 0] 39)) := k0.trans (bp.mono k0.size)
      have hPw : W0.heap.size ≤ wd.heap.size := k0.size
      generalize wd.alloc (.cells #[.bool false, .int .i64 0, .slice none 0 0, .slice none 0 0, .slice none 0 0, .string ⟨#[]⟩, .int .i64 0, .slice none 0 0, .int .i64 0] 39) = wp at hp k0p bp  ⊢
      generalize wd.heap.size = P at hp hPw  ⊢
      clear bp
      refine hK.out _ _ (HMK.out _ k0p) (fun hHeld => ?_)
      clear hK K
      try go_frame
      refine wpAnyH_ready (rs := [4]) (by kernel_rfl) (by simp) ?_
      refine consL rfl (fun K hK => ?_) AllReadyH.nil
      go_simp
      have lp := hp.lt
      refine (CD.out _ k0p).mono ?_
      rintro e we ⟨ub, rfl, hU0, be⟩
      have k0pe : Below W0.heap.size W0 we := k0p.trans (be.mono k0p.size)
      have hp := hp.keep be
      have hU : ∀ w', we.grownBy w' (some P) → LevelsIn W0.heap.size w' (some ⟨ub, 0, none⟩) 3 3 U := fun w' hg => (hU0.same (same_of_grown hg lp)).mono k0p.size
      clear lp
      clear be hU0
      go_wp2_with fail
      refine hK.out _ _ (HMK.out _ k0pe) (fun hHeld => ?_)
      clear hK K
      try go_frame
      refine wpAnyH_takeL (i := 5) (v := ?_) rfl (by kernel_rfl) (by kernel_rfl) (by kernel_rfl) (fun _ _ _ h => h) (Or.inl ⟨by rfl, ?_⟩) hHeld ?_
      rotate_left
      · (intro w hSw; (try dsimp only at hSw); go_simp; try with_reducible rfl)
      try go_frame
      refine wpAnyH_ready (rs := [7]) (by kernel_rfl) (by simp) ?_
      refine consL rfl (fun K hK => ?_) AllReadyH.nil
      have c0 := hp.c0
      have c1 := hp.c1
      have c2 := hp.c2
      have c3 := hp.c3
      have c4 := hp.c4
      have c5 := hp.c5
      have c6 := hp.c6
      have c7 := hp.c7
      have c8 := hp.c8
      have fz := hp.fz
      have zp := hp.lt
      go_simp
      have kz := (((((((((k0pe.setCell (p := ⟨P, 0, none⟩) hPw (.bool up)).setCell (p := ⟨P, 1, none⟩) hPw (.int .i64 0)).setCell (p := ⟨P, 2, none⟩) hPw (.slice none 0 0)).setCell (p := ⟨P, 3, none⟩) hPw (.slice none 0 0)).setCell (p := ⟨P, 4, none⟩) hPw (.slice none 0 0)).setCell (p := ⟨P, 5, none⟩) hPw (.string lg)).setCell (p := ⟨P, 6, none⟩) hPw (.int .i64 sf)).setCell (p := ⟨P, 7, none⟩) hPw (.slice (some ⟨ub, 0, none⟩) 3 3)).setCell (p := ⟨P, 8, none⟩) hPw (.int .i64 sd))
      have hq := (((((((((hp.set0 (.bool up)).set1 (.int .i64 0)).set2 (.slice none 0 0)).set3 (.slice none 0 0)).set4 (.slice none 0 0)).set5 (.string lg)).set6 (.int .i64 sf)).set7 (.slice (some ⟨ub, 0, none⟩) 3 3)).set8 (.int .i64 sd))
      have hU := fun w' (hg : World.grownBy _ w' (some P)) => hU w' (grownP_trans ((grown_set ((grown_set ((grown_set ((grown_set ((grown_set ((grown_set ((grown_set ((grown_set ((grown_set (grown_refl we P) 0 (.bool up))) 1 (.int .i64 0))) 2 (.slice none 0 0))) 3 (.slice none 0 0))) 4 (.slice none 0 0))) 5 (.string lg))) 6 (.int .i64 sf))) 7 (.slice (some ⟨ub, 0, none⟩) 3 3))) 8 (.int .i64 sd))) hg)
      clear c0 c1 c2 c3 c4 c5 c6 c7 c8 fz zp
      refine hK.out _ _ (HMK.out _ kz) (fun hHeld => ?_)
      clear hK K
      try go_frame
      refine wpAnyH_done (by kernel_rfl) ?_ _
      go_wp2
      go_meet
      exact ⟨P, ub, rfl, hq, hU, hPw, kz⟩
  case rest =>
    obtain ⟨P, ub, rfl, hbox, hU, hPw, hbw⟩ := hcut
    have HU : Hid (∀ w', wc.grownBy w' (some P) → LevelsIn W0.heap.size w' (some ⟨ub, 0, none⟩) 3 3 U) := hU
    have HBW : Hid (Below W0.heap.size W0 wc) := hbw
    have y0 := cell_later hbw x0
    have zy := World.block_lt_of_cell? _ _ y0
    simp only at zy
    clear hU k0 HMK CD
    cases up with
    | false =>
      have c0' := hbox.c0
      have c1' := hbox.c1
      have c2' := hbox.c2
      have c3' := hbox.c3
      have c4' := hbox.c4
      have c5' := hbox.c5
      have c6' := hbox.c6
      have c7' := hbox.c7
      have c8' := hbox.c8
      have cf := hbox.fz
      have cz := hbox.lt
      have bq := BR.out.keep hbw
      have d0 := bq.c0
      have d1 := bq.c1
      have d2 := bq.c2
      have d3 := bq.c3
      have d4 := bq.c4
      have d5 := bq.c5
      have d6 := bq.c6
      have d7 := bq.c7
      have d8 := bq.c8
      have df := bq.fz
      have dz := bq.lt
      have HBQ : Hid (Box9 wc (X + 1) (.bool false) (.int .i64 0) (.slice none 0 0) (.slice none 0 0) (.slice none 0 0) (.string ⟨#[]⟩) (.int .i64 0) (.slice none 0 0) (.int .i64 0)) := bq
      clear bq hbw hbox
      go_wp2
      refine bodyPost_ret (v := .agg #[.bool false, .int .i64 0, .slice none 0 0, .slice none 0 0, .slice none 0 0, .string lg, .int .i64 sf, .slice (some ⟨ub, 0, none⟩) 3 3, .int .i64 sd]) ?_ rfl ?_
      · have c := (((((((((HBQ.out.set0 (.bool false)).set1 (.int .i64 0)).set2 (.slice none 0 0)).set3 (.slice none 0 0)).set4 (.slice none 0 0)).set5 (.string lg)).set6 (.int .i64 sf)).set7 (.slice (some ⟨ub, 0, none⟩) 3 3)).set8 (.int .i64 sd))
        simp [results, Try.results80, go_sem, c.c0, c.c1, c.c2, c.c3, c.c4, c.c5, c.c6, c.c7, c.c8]
      · refine ⟨ub, rfl, ?_, ?_⟩
        · have hsz := HSZ.out
          have hxw := HXW.out
          have l0 := HU.out wc (grown_refl _ _)
          have hm : Same W0.heap.size wc (((((((((wc.setCell ⟨X + 1, 0, none⟩ (.bool false)).setCell ⟨X + 1, 1, none⟩ (.int .i64 0)).setCell ⟨X + 1, 2, none⟩ (.slice none 0 0)).setCell ⟨X + 1, 3, none⟩ (.slice none 0 0)).setCell ⟨X + 1, 4, none⟩ (.slice none 0 0)).setCell ⟨X + 1, 5, none⟩ (.string lg)).setCell ⟨X + 1, 6, none⟩ (.int .i64 sf)).setCell ⟨X + 1, 7, none⟩ (.slice (some ⟨ub, 0, none⟩) 3 3)).setCell ⟨X + 1, 8, none⟩ (.int .i64 sd)) := (((((((((Same.of_set _ _ (by show X + 1 < _; omega)).trans (Same.of_set _ _ (by show X + 1 < _; omega))).trans (Same.of_set _ _ (by show X + 1 < _; omega))).trans (Same.of_set _ _ (by show X + 1 < _; omega))).trans (Same.of_set _ _ (by show X + 1 < _; omega))).trans (Same.of_set _ _ (by show X + 1 < _; omega))).trans (Same.of_set _ _ (by show X + 1 < _; omega))).trans (Same.of_set _ _ (by show X + 1 < _; omega))).trans (Same.of_set _ _ (by show X + 1 < _; omega)))
          exact (l0.same hm).mono (by omega)
        · have hx : w.heap.size ≤ X + 1 := by have := HXW.out; omega
          exact ((((((((((KW.out.trans (HBW.out.mono KW.out.size)).setCell (p := ⟨X + 1, 0, none⟩) hx _).setCell (p := ⟨X + 1, 1, none⟩) hx _).setCell (p := ⟨X + 1, 2, none⟩) hx _).setCell (p := ⟨X + 1, 3, none⟩) hx _).setCell (p := ⟨X + 1, 4, none⟩) hx _).setCell (p := ⟨X + 1, 5, none⟩) hx _).setCell (p := ⟨X + 1, 6, none⟩) hx _).setCell (p := ⟨X + 1, 7, none⟩) hx _).setCell (p := ⟨X + 1, 8, none⟩) hx _)
    | true =>
      have y1 := cell_later hbw x1
      have y2 := cell_later hbw x2
      have y3 := cell_later hbw x3
      have y4 := cell_later hbw x4
      have y5 := cell_later hbw x5
      have y6 := cell_later hbw x6
      have HBX : Hid (Box9 wc P (.bool true) (.int .i64 0) (.slice none 0 0) (.slice none 0 0) (.slice none 0 0) (.string lg) (.int .i64 sf) (.slice (some ⟨ub, 0, none⟩) 3 3) (.int .i64 sd)) := hbox
      clear hbw hbox
      go_wp2_with fail
      refine (CT.out _ HBW.out).mono ?_
      rintro e w2 ⟨eb, vb, sb, rfl, hT, hb2⟩
      have hbox := HBX.out.keep hb2
      have c0' := hbox.c0
      have c1' := hbox.c1
      have c2' := hbox.c2
      have c3' := hbox.c3
      have c4' := hbox.c4
      have c5' := hbox.c5
      have c6' := hbox.c6
      have c7' := hbox.c7
      have c8' := hbox.c8
      have cf := hbox.fz
      have cz := hbox.lt
      have K2 : Hid (Below W0.heap.size W0 w2) := HBW.out.trans (hb2.mono HBW.out.size)
      have bq := BR.out.keep K2.out
      have hPl := HBX.out.lt
      obtain ⟨w3, hw3⟩ : ∃ w3, w3 = ((((w2.setCell ⟨P, 1, none⟩ (.int .i64 q)).setCell ⟨P, 2, none⟩ (.slice (some ⟨eb, 0, none⟩) nm nm)).setCell ⟨P, 3, none⟩ (.slice (some ⟨vb, 0, none⟩) 3 3)).setCell ⟨P, 4, none⟩ (.slice (some ⟨sb, 0, none⟩) nk nk)) := ⟨_, rfl⟩
      have HB3 : Hid (Box9 w3 P (.bool true) (.int .i64 q) (.slice (some ⟨eb, 0, none⟩) nm nm) (.slice (some ⟨vb, 0, none⟩) 3 3) (.slice (some ⟨sb, 0, none⟩) nk nk) (.string lg) (.int .i64 sf) (.slice (some ⟨ub, 0, none⟩) 3 3) (.int .i64 sd)) := by rw [hw3]; exact ((((hbox.set1 (.int .i64 q)).set2 (.slice (some ⟨eb, 0, none⟩) nm nm)).set3 (.slice (some ⟨vb, 0, none⟩) 3 3)).set4 (.slice (some ⟨sb, 0, none⟩) nk nk))
      have g23 : w2.grownBy w3 (some P) := by rw [hw3]; exact (grown_set ((grown_set ((grown_set ((grown_set (grown_refl w2 P) 1 (.int .i64 q))) 2 (.slice (some ⟨eb, 0, none⟩) nm nm))) 3 (.slice (some ⟨vb, 0, none⟩) 3 3))) 4 (.slice (some ⟨sb, 0, none⟩) nk nk))
      have K3 : Hid (Below W0.heap.size W0 w3) := by rw [hw3]; exact ((((K2.out.setCell (p := ⟨P, 1, none⟩) hPw _).setCell (p := ⟨P, 2, none⟩) hPw _).setCell (p := ⟨P, 3, none⟩) hPw _).setCell (p := ⟨P, 4, none⟩) hPw _)
      have hT3 : TreeIn wc.heap.size w3 (some ⟨eb, 0, none⟩) nm nm (some ⟨vb, 0, none⟩) 3 3 (some ⟨sb, 0, none⟩) nk nk M [A, B, C] S := hT.same (same_of_grown g23 hPl)
      have HT3 : Hid (TreeIn wc.heap.size w3 (some ⟨eb, 0, none⟩) nm nm (some ⟨vb, 0, none⟩) 3 3 (some ⟨sb, 0, none⟩) nk nk M [A, B, C] S) := hT3
      have HU3 : Hid (LevelsIn W0.heap.size w3 (some ⟨ub, 0, none⟩) 3 3 U) := HU.out w3 (grownP_trans (grown_row hb2) g23)
      have hXP : P ≠ X + 1 := by have := HSZ.out; omega
      have HBQ : Hid (Box9 w3 (X + 1) (.bool false) (.int .i64 0) (.slice none 0 0) (.slice none 0 0) (.slice none 0 0) (.string ⟨#[]⟩) (.int .i64 0) (.slice none 0 0) (.int .i64 0)) := by rw [hw3]; exact ((((bq.other hXP _).other hXP _).other hXP _).other hXP _)
      have p0 := HB3.out.c0
      have p1 := HB3.out.c1
      have p2 := HB3.out.c2
      have p3 := HB3.out.c3
      have p4 := HB3.out.c4
      have p5 := HB3.out.c5
      have p6 := HB3.out.c6
      have p7 := HB3.out.c7
      have p8 := HB3.out.c8
      have pz := HB3.out.lt
      have d0 := HBQ.out.c0
      have d1 := HBQ.out.c1
      have d2 := HBQ.out.c2
      have d3 := HBQ.out.c3
      have d4 := HBQ.out.c4
      have d5 := HBQ.out.c5
      have d6 := HBQ.out.c6
      have d7 := HBQ.out.c7
      have d8 := HBQ.out.c8
      have df := HBQ.out.fz
      have dz := HBQ.out.lt
      have HWC : Hid (W0.heap.size ≤ wc.heap.size) := HBW.out.size
      clear hb2 hT hT3 g23 bq hbox
      go_upto_region 4 with fail
      try rw [← hw3]
      clear hw3
      go_wp2
      refine bodyPost_ret (v := .agg #[.bool true, .int .i64 q, .slice (some ⟨eb, 0, none⟩) nm nm, .slice (some ⟨vb, 0, none⟩) 3 3, .slice (some ⟨sb, 0, none⟩) nk nk, .string lg, .int .i64 sf, .slice (some ⟨ub, 0, none⟩) 3 3, .int .i64 sd]) ?_ rfl ?_
      · have c := (((((((((HBQ.out.set0 (.bool true)).set1 (.int .i64 q)).set2 (.slice (some ⟨eb, 0, none⟩) nm nm)).set3 (.slice (some ⟨vb, 0, none⟩) 3 3)).set4 (.slice (some ⟨sb, 0, none⟩) nk nk)).set5 (.string lg)).set6 (.int .i64 sf)).set7 (.slice (some ⟨ub, 0, none⟩) 3 3)).set8 (.int .i64 sd))
        simp [results, Try.results80, go_sem, c.c0, c.c1, c.c2, c.c3, c.c4, c.c5, c.c6, c.c7, c.c8]
      · refine ⟨eb, vb, sb, ub, rfl, ?_, ?_⟩
        · have hsz := HSZ.out
          have hxw := HXW.out
          have hwc := HWC.out
          have hm : Same W0.heap.size w3 (((((((((w3.setCell ⟨X + 1, 0, none⟩ (.bool true)).setCell ⟨X + 1, 1, none⟩ (.int .i64 q)).setCell ⟨X + 1, 2, none⟩ (.slice (some ⟨eb, 0, none⟩) nm nm)).setCell ⟨X + 1, 3, none⟩ (.slice (some ⟨vb, 0, none⟩) 3 3)).setCell ⟨X + 1, 4, none⟩ (.slice (some ⟨sb, 0, none⟩) nk nk)).setCell ⟨X + 1, 5, none⟩ (.string lg)).setCell ⟨X + 1, 6, none⟩ (.int .i64 sf)).setCell ⟨X + 1, 7, none⟩ (.slice (some ⟨ub, 0, none⟩) 3 3)).setCell ⟨X + 1, 8, none⟩ (.int .i64 sd)) := (((((((((Same.of_set _ _ (by show X + 1 < _; omega)).trans (Same.of_set _ _ (by show X + 1 < _; omega))).trans (Same.of_set _ _ (by show X + 1 < _; omega))).trans (Same.of_set _ _ (by show X + 1 < _; omega))).trans (Same.of_set _ _ (by show X + 1 < _; omega))).trans (Same.of_set _ _ (by show X + 1 < _; omega))).trans (Same.of_set _ _ (by show X + 1 < _; omega))).trans (Same.of_set _ _ (by show X + 1 < _; omega))).trans (Same.of_set _ _ (by show X + 1 < _; omega)))
          have hmw : Same wc.heap.size w3 (((((((((w3.setCell ⟨X + 1, 0, none⟩ (.bool true)).setCell ⟨X + 1, 1, none⟩ (.int .i64 q)).setCell ⟨X + 1, 2, none⟩ (.slice (some ⟨eb, 0, none⟩) nm nm)).setCell ⟨X + 1, 3, none⟩ (.slice (some ⟨vb, 0, none⟩) 3 3)).setCell ⟨X + 1, 4, none⟩ (.slice (some ⟨sb, 0, none⟩) nk nk)).setCell ⟨X + 1, 5, none⟩ (.string lg)).setCell ⟨X + 1, 6, none⟩ (.int .i64 sf)).setCell ⟨X + 1, 7, none⟩ (.slice (some ⟨ub, 0, none⟩) 3 3)).setCell ⟨X + 1, 8, none⟩ (.int .i64 sd)) := (((((((((Same.of_set _ _ (by show X + 1 < _; omega)).trans (Same.of_set _ _ (by show X + 1 < _; omega))).trans (Same.of_set _ _ (by show X + 1 < _; omega))).trans (Same.of_set _ _ (by show X + 1 < _; omega))).trans (Same.of_set _ _ (by show X + 1 < _; omega))).trans (Same.of_set _ _ (by show X + 1 < _; omega))).trans (Same.of_set _ _ (by show X + 1 < _; omega))).trans (Same.of_set _ _ (by show X + 1 < _; omega))).trans (Same.of_set _ _ (by show X + 1 < _; omega)))
          have t := HT3.out.same hmw
          exact ⟨⟨t.mem.mono (by omega), t.levels.mono (by omega), t.snaps.lower (by omega)⟩, (HU3.out.same hm).mono (by omega)⟩
        · have hx : w.heap.size ≤ X + 1 := by have := HXW.out; omega
          exact ((((((((((KW.out.trans (K3.out.mono KW.out.size)).setCell (p := ⟨X + 1, 0, none⟩) hx _).setCell (p := ⟨X + 1, 1, none⟩) hx _).setCell (p := ⟨X + 1, 2, none⟩) hx _).setCell (p := ⟨X + 1, 3, none⟩) hx _).setCell (p := ⟨X + 1, 4, none⟩) hx _).setCell (p := ⟨X + 1, 5, none⟩) hx _).setCell (p := ⟨X + 1, 6, none⟩) hx _).setCell (p := ⟨X + 1, 7, none⟩) hx _).setCell (p := ⟨X + 1, 8, none⟩) hx _)
end Go.Proofs.Ytkeodfajgpbgaaa
