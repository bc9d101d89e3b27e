/-
  The program's heads: the last taken away, by a walk of its Go text.
-/
import Derived.RangeFuncBox
import Derived.Test.YtlmgojlffgkciaaGreatGaXMgI
namespace Go.Proofs.YtlmgojlffgkciaaGreat
open Go.RowKit
set_option maxRecDepth 100000
set_option maxHeartbeats 4000000
theorem flatH_take : ∀ (X : List StrD) (k : Nat), flatH (X.take k) = (flatH X).take (k * 2)
  | [], k => by simp [flatH]
  | x :: X, 0 => by simp [flatH]
  | x :: X, k + 1 => by
    rw [List.take_succ_cons, flatH_cons, flatH_cons, flatH_take X k, show (k + 1) * 2 = k * 2 + 1 + 1 by omega, List.take_succ_cons, List.take_succ_cons]
theorem OwnH.take {w : World} {base g n c k : Nat} {X : List StrD} (h : OwnH w base g n c X) (hk : k ≤ n) : OwnH w base g k c (X.take k) := by
  have hl := h.len
  obtain ⟨h1, h2⟩ := h.owns
  rcases h2 with ⟨hv, _⟩ | ⟨g', cap, cur, hv, hb, hg, hnc, hcm, hs, ht⟩
  · cases hv
  · cases hv
    refine ⟨⟨by rw [flatH_len, List.length_take, Nat.min_eq_left (by omega)], .inr ⟨g, c, cur, rfl, hb, hg, by omega, hcm, hs, ?_⟩⟩, by rw [List.length_take]; omega⟩
    rw [flatH_take, ← ht, List.take_take, Nat.min_eq_left (by omega)]
theorem HpSt.pop {w : World} {base BH g n c k : Nat} {X : List StrD} {H : List (List EntD × Nat)} {o : Obj} (h : HpSt w base BH g n c X H) (hk : n = k + 1) : HpSt ((w.setCell ⟨BH, 0, none⟩ (.slice (some ⟨g, 0, none⟩) k c)).alloc o) base BH g k c (X.take k) (H.take k) := by
  obtain ⟨w1, hw1⟩ : ∃ w1, w1 = w.setCell ⟨BH, 0, none⟩ (.slice (some ⟨g, 0, none⟩) k c) := ⟨_, rfl⟩
  have hg : w.grownBy w1 (some BH) := by rw [hw1]; exact grown_cellH w BH 0 _
  have hb1 : w1.cell? ⟨BH, 0, none⟩ = some (.slice (some ⟨g, 0, none⟩) k c) := by rw [hw1]; exact World.cell?_setCell_same' _ _ _ (by rw [h.box]; rfl)
  rw [← hw1]
  have h1 : HpSt w1 base BH g k c (X.take k) (H.take k) := by
    refine ⟨hb1, (h.own.take (by omega)).grown hg (fun e => h.ne (Option.some.inj e).symm), by rw [List.length_take, h.len]; omega, fun j x s hx hs => ?_, h.ne⟩
    have hjx := (List.getElem?_eq_some_iff.1 hx).1
    rw [List.length_take] at hjx
    rw [List.getElem?_take_of_lt (by omega)] at hx hs
    obtain ⟨l, r1, r2, r3, r4, r5⟩ := h.rest j x s hx hs
    refine ⟨l, r1, r2.grownB hg (fun y ey _ => ?_), Nat.lt_of_lt_of_le r3 hg.size, r4, r5⟩
    cases ey
    exact fun e => r5 (Option.some.inj e)
  exact h1.below ((Below.refl _ _).alloc (Nat.le_refl _) _)
theorem headsPop (base BH g n c k : Nat) (X : List StrD) (H : List (List EntD × Nat)) (w : World) (hk : n = k + 1) (hn : n ≤ 1048576) (hB : base ≤ BH) (hfr : w.frozen? ⟨BH, 0, none⟩ = false) (hS : HpSt w base BH g n c X H) :
    Calls Tryz.prog 259 #[.pointer (some ⟨BH, 0, none⟩)] w fun e w' => (∃ v, e = .returned v) ∧ HpSt w' base BH g k c (X.take k) (H.take k) ∧ Below base w w' ∧ KeepsOthers w w' ∧ w'.frozen? ⟨BH, 0, none⟩ = false ∧ w.grownBy w' (some BH) := by
  have hXL := hS.own.len
  obtain ⟨⟨xb, xo, xn, xc, xk⟩, hx⟩ : ∃ x, X[k]? = some x := ⟨_, List.getElem?_eq_getElem (by omega)⟩
  obtain ⟨x0, x1⟩ := hS.own.at2 hx
  simp only at x0 x1
  have hb := hS.box
  have zg := hS.own.lt.2
  have zb := World.block_lt_of_cell? _ _ hb
  simp only at zb
  have HS : Hid (HpSt w base BH g n c X H) := hS
  have HFR : Hid (w.frozen? ⟨BH, 0, none⟩ = false) := hfr
  have wk : IntKind.i64.wrap ((n : Int) - 1) = (k : Int) := by rw [IntKind.wrap_i64]; omega
  have hkI : (k : Int) < (n : Int) := by omega
  have hc : n ≤ c := by
    rcases hS.own.owns.2 with ⟨hv, _⟩ | ⟨g', cap, cur, hv, _, _, hnc, _⟩
    · cases hv
    · cases hv; exact hnc
  have hcI : (k : Int) ≤ (c : Int) := by omega
  clear hS
  go_enter Tryz.func259, Tryz.ntmps259
  go_wp2
  go_ret
  refine ⟨⟨_, rfl⟩, ?_, ?_, (KeepsOthers.setCell _ _ _).trans (KeepsOthers.alloc _ _), ?_, (grown_cellH _ _ _ _).trans (World.grownBy_alloc _ _ _)⟩
  · exact HS.out.pop hk
  · exact ((Below.refl base w).setCell (p := ⟨BH, 0, none⟩) hB _).alloc (by have := HS.out.own.lt; simp [World.setCell]; omega) _
  · rw [World.frozen?_alloc_old _ _ _ (by show BH ≠ _; simp [World.setCell]; omega), World.frozen?_setCell]; exact HFR.out
end Go.Proofs.YtlmgojlffgkciaaGreat
