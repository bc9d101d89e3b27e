/-
  What the program's BookAccts answers of every list of postings, by a walk of its Go text.
-/
import Derived.Test.YtkhnknpacdmikaaAcctsT
import Derived.Test.YtkhnknpacdmikaaTallyO
import Derived.Test.YtkhnknpacdmikaaCloneE
namespace Go.Proofs.Ytkhnknpacdmikaa
open Go.RowKit

attribute [local go_sem] Oper.semAt_some

/-- A list of texts in memory from block lo on. -/
def StrsIn (lo : Nat) (w : World) (a : Option Addr) (n c : Nat) (A : List ByteArray) : Prop := w.ownsRow lo 9 1 (.slice a n c) n (A.map .string) ∧ A.length = n
theorem ownsBelow {w w' : World} {base e size n : Nat} {v : Value} {xs : List Value} (h : w.ownsRow base e size v n xs) (hb : Below w.heap.size w w') : w'.ownsRow base e size v n xs := h.kept (row := none) ⟨hb.os, hb.tape, hb.output, hb.size, fun k hk _ => hb.block k hk⟩ (by
  cases v.ownBlock with
  | none => exact .inl rfl
  | some x => exact .inr (by simp))
theorem StrsIn.below {lo : Nat} {w w' : World} {a : Option Addr} {n c : Nat} {A : List ByteArray} (h : StrsIn lo w a n c A) (hb : Below w.heap.size w w') : StrsIn lo w' a n c A := ⟨ownsBelow h.1 hb, h.2⟩
theorem rowLow {w : World} {base base' e size n : Nat} {v : Value} {xs : List Value} (h : w.ownsRow base e size v n xs) (hb : base' ≤ base) : w.ownsRow base' e size v n xs := by
  obtain ⟨h1, h2⟩ := h
  refine ⟨h1, ?_⟩
  rcases h2 with h2 | ⟨g, cap, cur, hv, hg, r⟩
  · exact Or.inl h2
  · exact Or.inr ⟨g, cap, cur, hv, Nat.le_trans hb hg, r⟩
theorem List.set_getElem?_eq {α : Type} {l : List α} {k : Nat} {x : α} (h : l[k]? = some x) : l.set k x = l := by
  apply List.ext_getElem?
  intro i
  by_cases e : k = i
  · subst e
    rw [h, List.getElem?_set_self (List.getElem?_eq_some_iff.1 h).1]
  · rw [List.getElem?_set_ne e]

theorem leg_four {p : PostD} (h : postB p.1 p.2 = true) : ∀ l ∈ p.2, l.1.size ≤ 4 := by
  intro l hl
  have h1 : p.2.all legB = true := by
    unfold postB at h
    simp only [Bool.and_eq_true] at h
    exact h.2.2.2.2
  have h2 := List.all_eq_true.1 h1 l hl
  unfold legB acctB at h2
  simp only [Bool.and_eq_true, decide_eq_true_eq] at h2
  omega
theorem mem_accS4 {B : List PostD} (h : ∀ p ∈ B, postB p.1 p.2 = true) : ∀ y ∈ accS B, y.size ≤ 4 := by
  have key : ∀ (B : List PostD) (A : List ByteArray), (∀ p ∈ B, postB p.1 p.2 = true) → (∀ y ∈ A, y.size ≤ 4) → ∀ y ∈ B.foldl (fun A p => putLs A p.2) A, y.size ≤ 4 := by
    intro B
    induction B with
    | nil => intro A _ h; exact h
    | cons p B ih =>
      intro A h1 h2
      refine ih (putLs A p.2) (fun q hq => h1 q (List.mem_cons_of_mem _ hq)) ?_
      intro y hy
      rcases mem_putLs p.2 A hy with hy | ⟨l, hl, rfl⟩
      · exact h2 y hy
      · exact leg_four (h1 p (List.mem_cons_self ..)) l hl
  exact key B [] h (fun y hy => by simp at hy)

set_option maxRecDepth 100000 in
set_option maxHeartbeats 2000000 in
theorem implAccts (a : Option Addr) (n c : Nat) (B : List PostD) (w : World) (hP : PostsAt w a n c B) :
    Calls Try.prog 26 #[.slice a n c] w fun e w' => ∃ (a' : Option Addr) (n' c' : Nat), e = .returned (.slice a' n' c') ∧ StrsIn w.heap.size w' a' n' c' (accOf B) ∧ Below w.heap.size w w' := by
  go_enter Try.func26, Try.ntmps26
  go_wp2_with fail
  refine (implTally a n c B _ hP).mono ?_
  intro e w1 hR
  rcases hR with ⟨hbook, T, mi, mb, va, rfl, hT, hmi, hmb, hb1⟩ | ⟨hbook, c0, hc0, rfl, hb1⟩
  · have HA : Hid (accOf B = accB B) := by show accOf B = accB B; unfold accOf; rw [hbook, if_pos rfl]; exact (accS_asc B).2.symm
    obtain ⟨av, cv, rfl⟩ := row_slice hT.row
    have hl160 : (accB B).length ≤ 160 := by rw [← HA.out]; exact accOf_len B
    have HSZ : Hid (∀ y ∈ accB B, y.size ≤ 4) := by
      show ∀ y ∈ accB B, y.size ≤ 4
      rw [(accS_asc B).2]
      exact mem_accS4 (book_good hbook)
    obtain ⟨W, hW⟩ : ∃ W, W = w1.alloc (.cells #[.map (some mi), .map (some mb), .slice av (accB B).length cv] 92) := ⟨_, rfl⟩
    obtain ⟨X, hX⟩ : ∃ X, X = w1.heap.size := ⟨_, rfl⟩
    have x2 : W.cell? ⟨X, 2, none⟩ = some (.slice av (accB B).length cv) := by rw [hW, hX]; simp
    have HB0 : Hid (Below w.heap.size w W) := by show Below _ _ _; rw [hW]; exact hb1.alloc hb1.size _
    have hrow : w1.ownsRow w.heap.size 9 1 (.slice av (accB B).length cv) (accB B).length ((accB B).map .string) := rowLow hT.row (by have := hT.hmi; omega)
    have HXG : Hid (∀ g, av = some ⟨g, 0, none⟩ → g ≠ X) := fun g e => by
      subst e
      have := (hrow.lt g rfl).2
      omega
    have HO0 : Hid (W.ownsRow w.heap.size 9 1 (.slice av (accB B).length cv) (accB B).length ((accB B).map .string)) := by show World.ownsRow _ _ _ _ _ _ _; rw [hW]; exact ownsBelow hrow ((Below.refl _ _).alloc (Nat.le_refl _) _)
    go_upto_region 2 with fail
    rw [← hW, ← hX]
    clear hT hrow hb1 hW hX hmi hmb
    obtain ⟨A, hA⟩ : ∃ A, A = accB B := ⟨_, rfl⟩
    have HAB : Hid (A = accB B) := hA
    rw [← hA] at x2 HO0 hl160 HSZ HA ⊢
    clear hA
    obtain ⟨ln, hln⟩ : ∃ ln, ln = A.length := ⟨_, rfl⟩
    have HLN : Hid (ln = A.length) := hln
    rw [← hln] at x2 hl160 HO0 ⊢
    clear hln
    have lX : X < W.heap.size := World.block_lt_of_cell? _ _ x2
    go_wp2
    go_loopw [16] (fun iv wr => ∃ k : Nat, k ≤ ln ∧ iv = .int .i64 k ∧ wr.cell? ⟨X, 2, none⟩ = some (.slice av ln cv) ∧ wr.ownsRow w.heap.size 9 1 (.slice av ln cv) ln (A.map .string) ∧ Below w.heap.size w wr) (fun iv _ => ln - (intOf iv).toNat)
    case atStart => exact ⟨0, Nat.zero_le _, rfl, x2, HO0.out, HB0.out⟩
    case round =>
      obtain ⟨k, hk, rfl, x2, ho, hb⟩ := hrel
      have HO : Hid (wr.ownsRow w.heap.size 9 1 (.slice av ln cv) ln (A.map .string)) := ho
      have HB : Hid (Below w.heap.size w wr) := hb
      have lX : X < wr.heap.size := World.block_lt_of_cell? _ _ x2
      by_cases hkn : k < ln
      · have hkA : k < A.length := by rw [← HLN.out]; exact hkn
        obtain ⟨x, hx⟩ : ∃ x, x = A[k] := ⟨_, rfl⟩
        have hgx : A[k]? = some x := by rw [hx]; exact List.getElem?_eq_getElem hkA
        have hxs : x.size ≤ 4 := HSZ.out x (by rw [hx]; exact List.getElem_mem hkA)
        obtain ⟨g, rfl, hgb, hgr, hlc, hcm⟩ : ∃ g, av = some ⟨g, 0, none⟩ ∧ w.heap.size ≤ g ∧ g < wr.heap.size ∧ ln ≤ cv ∧ cv ≤ maxLen := by
          rcases strs_form ho with ⟨_, h0, _⟩ | ⟨g, cur', h, hg0, hg, h1, h2, _⟩
          · omega
          · exact ⟨g, h, hg0, (Array.getElem?_eq_some_iff.1 hg).1, h1, h2⟩
        unfold maxLen at hcm
        have hcx : wr.cell? ⟨g, k, none⟩ = some (.string x) := str_cell ho hgx
        have hfx : wr.frozen? ⟨g, k, none⟩ = false := ho.frozenAt _
        have HGX : Hid ((A.map Value.string)[k]? = some (.string x)) := by show (A.map Value.string)[k]? = _; rw [List.getElem?_map, hgx]; rfl
        have HGB : Hid (w.heap.size ≤ g) := hgb
        have CE : Hid (∀ w', Calls Try.prog 67 #[.string x] w' fun e w'' => e = .returned (.string x) ∧ Below w'.heap.size w' w'') := fun w' => strClone x w' (by omega)
        have hne := HXG.out g rfl
        have HXS : Hid (∀ w', Below wr.heap.size wr w' → (w'.setCell ⟨g, k, none⟩ (.string x)).cell? ⟨X, 2, none⟩ = some (.slice (some ⟨g, 0, none⟩) ln cv)) := fun w' kk => (World.cell?_setCell_other _ _ _ _ (fun e => hne (by cases e; rfl))).trans (cell_later kk x2)
        have HMK : Hid (∀ w', Below wr.heap.size wr w' → (w'.cell? ⟨X, 2, none⟩ = some (.slice (some ⟨g, 0, none⟩) ln cv) ∧ X < w'.heap.size ∧ w'.cell? ⟨g, k, none⟩ = some (.string x) ∧ g < w'.heap.size)) := fun w' kk => ⟨cell_later kk x2, Nat.lt_of_lt_of_le lX kk.size, cell_later kk hcx, Nat.lt_of_lt_of_le hgr kk.size⟩
        have HMS : Hid (∀ w', Below wr.heap.size wr w' → ((w'.setCell ⟨g, k, none⟩ (.string x)).cell? ⟨X, 2, none⟩ = some (.slice (some ⟨g, 0, none⟩) ln cv) ∧ X < (w'.setCell ⟨g, k, none⟩ (.string x)).heap.size ∧ (w'.setCell ⟨g, k, none⟩ (.string x)).cell? ⟨g, k, none⟩ = some (.string x) ∧ g < (w'.setCell ⟨g, k, none⟩ (.string x)).heap.size)) := fun w' kk => ⟨HXS.out w' kk, by simpa [World.setCell] using Nat.lt_of_lt_of_le lX kk.size, World.cell?_setCell_same' _ _ _ (by rw [cell_later kk hcx]; rfl), by simpa [World.setCell] using Nat.lt_of_lt_of_le hgr kk.size⟩
        have k0 : Below wr.heap.size wr wr.drew := (Below.refl _ wr).drew
        have hknI : (k : Int) < (ln : Int) := by omega
        clear hx hgx hkA hxs ho hb hgb hne
        go_upto_region 7 with fail
        refine wp_region_held_drew (S := (fun w' => w'.cell? ⟨X, 2, none⟩ = some (.slice (some ⟨g, 0, none⟩) ln cv) ∧ X < w'.heap.size ∧ w'.cell? ⟨g, k, none⟩ = some (.string x) ∧ g < w'.heap.size)) (by kernel_rfl) (HMK.out _ k0) (fun hHeld => ?_)
        generalize wr.drew = wd at k0 hHeld ⊢
        refine wpAnyH_takeL (i := 0) (v := ?_) rfl (by kernel_rfl) (by kernel_rfl) (by kernel_rfl) (fun _ _ _ h => h) (Or.inl ⟨by rfl, ?_⟩) hHeld ?_
        rotate_left
        · (intro w hSw; (try dsimp only at hSw); go_simp; try with_reducible rfl)
        try go_frame
        refine wpAnyH_takeL (i := 1) (v := ?_) rfl (by kernel_rfl) (by kernel_rfl) (by kernel_rfl) (fun _ _ _ h => h) (Or.inl ⟨by rfl, ?_⟩) hHeld ?_
        rotate_left
        · (intro w hSw; (try dsimp only at hSw); go_simp; try with_reducible rfl)
        try go_frame
        refine wpAnyH_takeL (i := 2) (v := ?_) rfl (by kernel_rfl) (by kernel_rfl) (by kernel_rfl) (fun _ _ _ h => h) (Or.inl ⟨by rfl, ?_⟩) hHeld ?_
        rotate_left
        · (intro w hSw; (try dsimp only at hSw); go_simp; try with_reducible rfl)
        try go_frame
        refine wpAnyH_takeL (i := 3) (v := ?_) rfl (by kernel_rfl) (by kernel_rfl) (by kernel_rfl) (fun _ _ _ h => h) (Or.inl ⟨by rfl, ?_⟩) hHeld ?_
        rotate_left
        · (intro w hSw; (try dsimp only at hSw); go_simp; try with_reducible rfl)
        try go_frame
        refine wpAnyH_takeL (i := 4) (v := ?_) rfl (by kernel_rfl) (by kernel_rfl) (by kernel_rfl) (fun _ _ _ h => h) (Or.inl ⟨by rfl, ?_⟩) hHeld ?_
        rotate_left
        · (intro w hSw; (try dsimp only at hSw); go_simp; try with_reducible rfl)
        try go_frame
        refine wpAnyH_takeL (i := 5) (v := ?_) rfl (by kernel_rfl) (by kernel_rfl) (by kernel_rfl) (fun _ _ _ h => h) (Or.inl ⟨by rfl, ?_⟩) hHeld ?_
        rotate_left
        · (intro w hSw; (try dsimp only at hSw); go_simp; try with_reducible rfl)
        try go_frame
        refine wpAnyH_takeL (i := 6) (v := ?_) rfl (by kernel_rfl) (by kernel_rfl) (by kernel_rfl) (fun _ _ _ h => h) (Or.inl ⟨by rfl, ?_⟩) hHeld ?_
        rotate_left
        · (intro w hSw; (try dsimp only at hSw); go_simp; try with_reducible rfl)
        try go_frame
        refine wpAnyH_takeL (i := 7) (v := ?_) rfl (by kernel_rfl) (by kernel_rfl) (by kernel_rfl) (fun _ _ _ h => h) (Or.inl ⟨by rfl, ?_⟩) hHeld ?_
        rotate_left
        · (intro w hSw; (try dsimp only at hSw); go_simp; try with_reducible rfl)
        try go_frame
        refine wpAnyH_ready (rs := [8]) (by kernel_rfl) (by simp) ?_
        refine consL rfl (fun K hK => ?_) AllReadyH.nil
        go_simp
        refine (CE.out _).mono ?_
        rintro e w2 ⟨rfl, bE⟩
        have k1 : Below wr.heap.size wr w2 := k0.trans (bE.mono k0.size)
        clear bE
        go_wp2_with fail
        refine hK.out _ _ (HMK.out _ k1) (fun hHeld => ?_)
        clear hK K
        try go_frame
        refine wpAnyH_takeL (i := 9) (v := ?_) rfl (by kernel_rfl) (by kernel_rfl) (by kernel_rfl) (fun _ _ _ h => h) (Or.inl ⟨by rfl, ?_⟩) hHeld ?_
        rotate_left
        · (intro w hSw; (try dsimp only at hSw); go_simp; try with_reducible rfl)
        try go_frame
        refine wpAnyH_ready (rs := [10]) (by kernel_rfl) (by simp) ?_
        refine consL rfl (fun K hK => ?_) AllReadyH.nil
        have s0 := cell_later k1 hcx
        have sf := (k1.frozen (p := ⟨g, k, none⟩) hgr).trans hfx
        go_simp
        refine hK.out _ _ (HMS.out _ k1) (fun hHeld => ?_)
        clear hK K
        try go_frame
        refine wpAnyH_done (by kernel_rfl) ?_ _
        have ho2 := ownsBelow HO.out k1
        have t0 := ho2.stored k (.string x)
        have hset : (A.map Value.string).set k (.string x) = A.map Value.string := List.set_getElem?_eq HGX.out
        rw [hset] at t0
        have x2' := HXS.out _ k1
        have kz := (HB.out.trans (k1.mono HB.out.size)).setCell (p := ⟨g, k, none⟩) HGB.out (.string x)
        clear hHeld
        go_wp2
        go_roundw
        case rel => exact ⟨k + 1, by omega, by go_num, x2', t0.1, kz⟩
        case measure => simp [intOf]; omega
      · clear ho hb
        have hend : ¬ (k : Int) < (ln : Int) := by omega
        go_wp2
        go_ret
        exact ⟨_, _, _, rfl, ⟨by rw [HA.out]; exact HO.out, by rw [HA.out]; exact HLN.out.symm⟩, HB.out⟩
  · have HA : Hid (accOf B = []) := by show accOf B = []; unfold accOf; rw [hbook]; rfl
    go_wp2
    go_ret
    exact ⟨none, 0, 0, rfl, ⟨by rw [HA.out]; exact ⟨rfl, Or.inl ⟨rfl, rfl⟩⟩, by rw [HA.out]; rfl⟩, hb1.alloc hb1.size _⟩
end Go.Proofs.Ytkhnknpacdmikaa
