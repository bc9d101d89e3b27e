/-
  What the program's mayTake answers at every tally and posting, by a walk of its Go text.
-/
import Derived.Test.YtkeodfajgpbgaaaTallyI
import Derived.WalkArith
namespace Go.Proofs.Ytkeodfajgpbgaaa
open Go.RowKit

/-- How posting ends, as an error. -/
def endV (c : Int) : Value := if c = 0 then .nilIface else .iface 256 (.agg #[.int .i64 c])
theorem postB_id {id : Int} {L : List LegD} (h : postB id L = true) : 0 ≤ id ∧ id ≤ 99 := by
  simp [postB] at h
  exact ⟨h.1, h.2.1⟩
theorem endV_ret {c : Int} {v : Value} (h : v = endV c) : Ending.returned v = .returned (endV c) := by rw [h]

set_option maxRecDepth 100000 in
set_option maxHeartbeats 2000000 in
theorem implMay (T mi mb : Nat) (va : Value) (B : List PostD) (A : List ByteArray) (id : Int) (s : Option Addr) (m cm : Nat) (L : List LegD) (w : World) (hT : TallyAt w T mi mb va B B [] A) (hL : LegsAt w s m cm L) (h40 : B.length ≤ 40) :
    Calls Try.prog 163 #[.pointer (some ⟨T, 0, none⟩), .agg #[.int .i64 id, .slice s m cm]] w fun e w' => e = .returned (endV (codeP B (id, L))) ∧ Below w.heap.size w w' := by
  have HT : Hid (TallyAt w T mi mb va B B [] A) := hT
  have HL : Hid (LegsAt w s m cm L) := hL
  have kB : Below w.heap.size w (w.alloc (.cells #[.int .i64 id, .slice s m cm] 65)) := (Below.refl _ _).alloc (Nat.le_refl _) _
  clear hT hL
  obtain ⟨X, hX⟩ : ∃ X, X = w.heap.size := ⟨_, rfl⟩
  obtain ⟨W, hW⟩ : ∃ W, W = w.alloc (.cells #[.int .i64 id, .slice s m cm] 65) := ⟨_, rfl⟩
  have x0 : W.cell? ⟨X, 0, none⟩ = some (.int .i64 id) := by rw [hW, hX]; simp
  have x1 : W.cell? ⟨X, 1, none⟩ = some (.slice s m cm) := by rw [hW, hX]; simp
  rw [← hW] at kB
  go_enter Try.func163, Try.ntmps163
  go_upto_region 1 with fail
  rw [← hW]
  simp only [← hX]
  clear hW hX
  cases hf : fairB id L with
  | false =>
    go_wp2_with (go_at_call 210; refine (implFair _ _ _ _ L _ (HL.out.keep kB)).mono ?_; rw [hf]; rintro e w1 ⟨rfl, hb1⟩)
    go_ret
    exact ⟨endV_ret (by simp [codeP, hf, endV]), kB.trans (hb1.mono kB.size)⟩
  | true =>
    have hpb := fair_post (p := (id, L)) hf
    have hid := postB_id hpb
    have hwf : (Lit.int .i64 id).wf = true := WalkArith.wf_i64 (by omega)
    have HPB : Hid (postB id L = true) := hpb
    clear hpb hid
    go_wp2_with fail
    refine (implFair _ _ _ _ L _ (HL.out.keep kB)).mono ?_
    rw [hf]
    rintro e w1 ⟨rfl, hb1⟩
    have k1 : Below w.heap.size w w1 := kB.trans (hb1.mono kB.size)
    have x10 := cell_later hb1 x0
    have x11 := cell_later hb1 x1
    have HT1 : Hid (TallyAt w1 T mi mb va B B [] A) := HT.out.below k1
    clear x0 x1 hb1 kB
    have k10 : Below w1.heap.size w1 w1.drew := (Below.refl _ w1).drew
    cases hh : hasP B id with
    | true =>
      have HMK : Hid (∀ w', Below w1.heap.size w1 w' → (w'.cell? ⟨X, 0, none⟩ = some (.int .i64 id) ∧ w'.cell? ⟨T, 0, none⟩ = some (.map (some mi)) ∧ (Instr.lookup 137 (.map (some mi)) (.int .i64 id) false).run Try.prog w' = .ok (.int .i64 1) w' ∧ Below w1.heap.size w1 w')) := fun w' k => ⟨cell_later k x10, (HT1.out.below k).c0, by have := (HT1.out.below k).lookId hwf; rw [hh] at this; exact this, k⟩
      go_upto_region 3 with fail
      go_region_held3 (fun w' => w'.cell? ⟨X, 0, none⟩ = some (.int .i64 id) ∧ w'.cell? ⟨T, 0, none⟩ = some (.map (some mi)) ∧ (Instr.lookup 137 (.map (some mi)) (.int .i64 id) false).run Try.prog w' = .ok (.int .i64 1) w' ∧ Below w1.heap.size w1 w') (exact HMK.out _ k10) (fail)
      all_goals
        go_wp2
        go_ret
        exact ⟨endV_ret (by simp [codeP, hf, hh, endV]), k1.trans (k10.mono k1.size)⟩
    | false =>
      have HMK : Hid (∀ w', Below w1.heap.size w1 w' → (w'.cell? ⟨X, 0, none⟩ = some (.int .i64 id) ∧ w'.cell? ⟨T, 0, none⟩ = some (.map (some mi)) ∧ (Instr.lookup 137 (.map (some mi)) (.int .i64 id) false).run Try.prog w' = .ok (.int .i64 0) w' ∧ Below w1.heap.size w1 w')) := fun w' k => ⟨cell_later k x10, (HT1.out.below k).c0, by have := (HT1.out.below k).lookId hwf; rw [hh] at this; exact this, k⟩
      go_upto_region 3 with fail
      go_region_held3 (fun w' => w'.cell? ⟨X, 0, none⟩ = some (.int .i64 id) ∧ w'.cell? ⟨T, 0, none⟩ = some (.map (some mi)) ∧ (Instr.lookup 137 (.map (some mi)) (.int .i64 id) false).run Try.prog w' = .ok (.int .i64 0) w' ∧ Below w1.heap.size w1 w') (exact HMK.out _ k10) (fail)
      have k2 : Below w.heap.size w w1.drew := k1.trans (k10.mono k1.size)
      cases ho : overP B (id, L) with
      | true =>
        go_wp2_with (go_at_call 211; refine (implOver _ _ _ _ _ B _ _ _ _ _ L _ (HT.out.below k2) (HL.out.keep k2) h40 HPB.out).mono ?_; rw [ho]; rintro e w3 ⟨rfl, hb3⟩)
        go_ret
        exact ⟨endV_ret (by simp [codeP, hf, hh, ho, endV]), k2.trans (hb3.mono k2.size)⟩
      | false =>
        go_wp2_with fail
        refine (implOver _ _ _ _ _ B _ _ _ _ _ L _ (HT.out.below k2) (HL.out.keep k2) h40 HPB.out).mono ?_
        rw [ho]
        rintro e w3 ⟨rfl, hb3⟩
        have k3 : Below w.heap.size w w3 := k2.trans (hb3.mono k2.size)
        have T3 := HT.out.below k3
        have c03 := T3.c0
        obtain ⟨D, hown, hD⟩ := T3.ids
        have hlen := hown.len Try.underlying137 3
        rw [hD.size] at hlen
        clear x10 x11 hb3 k2 T3 hown hD HMK HT1 k10
        by_cases hn : 40 ≤ B.length
        · go_wp2
          go_ret
          exact ⟨endV_ret (by simp [codeP, hf, hh, ho, hn, endV]), k3⟩
        · go_wp2
          go_ret
          exact ⟨endV_ret (by simp [codeP, hf, hh, ho, hn, endV]), k3⟩
end Go.Proofs.Ytkeodfajgpbgaaa
