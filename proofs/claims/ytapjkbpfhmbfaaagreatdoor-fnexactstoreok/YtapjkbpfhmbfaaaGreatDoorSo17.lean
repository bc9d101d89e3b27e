/-
  Rows of stretches in own memory: two cells each. No function of the program is walked here.
  The program's heads: two stretches exchanged, and how many there are, by walks of its Go text.
-/
import Derived.Test.YtapjkbpfhmbfaaaGreatDoorSo13
import Derived.Test.YtapjkbpfhmbfaaaGreatDoorSo16
import Derived.Deep.RegionLaw
import Derived.Deep.RegionHeld3
import Derived.Test.YtapjkbpfhmbfaaaGreatDoorSo03
namespace Go.Proofs.YtapjkbpfhmbfaaaGreatDoor
open Go.RowKit
abbrev StrD := Nat × Nat × Nat × Nat × Nat
def strCells (x : StrD) : List Value := [.slice (some ⟨x.1, x.2.1, none⟩) x.2.2.1 x.2.2.2.1, .int .i64 x.2.2.2.2]
def flatH (X : List StrD) : List Value := X.flatMap strCells
theorem flatH_cons (x : StrD) (X : List StrD) : flatH (x :: X) = .slice (some ⟨x.1, x.2.1, none⟩) x.2.2.1 x.2.2.2.1 :: .int .i64 x.2.2.2.2 :: flatH X := rfl
theorem flatH_append (A B : List StrD) : flatH (A ++ B) = flatH A ++ flatH B := by simp [flatH]
theorem flatH_len (X : List StrD) : (flatH X).length = X.length * 2 := by
  induction X with
  | nil => rfl
  | cons x r ih => rw [flatH_cons, List.length_cons, List.length_cons, ih, List.length_cons]; omega
theorem flatH_has : ∀ (X : List StrD) (j : Nat) (x : StrD), X[j]? = some x → (flatH X)[j * 2]? = some (.slice (some ⟨x.1, x.2.1, none⟩) x.2.2.1 x.2.2.2.1) ∧ (flatH X)[j * 2 + 1]? = some (.int .i64 x.2.2.2.2)
  | [], j, x, h => by simp at h
  | y :: X, 0, x, h => by simp at h; subst h; exact ⟨rfl, rfl⟩
  | y :: X, j + 1, x, h => by
    have := flatH_has X j x (by simpa using h)
    rw [flatH_cons, show (j + 1) * 2 = j * 2 + 1 + 1 by omega]
    exact ⟨by rw [List.getElem?_cons_succ, List.getElem?_cons_succ]; exact this.1, by rw [List.getElem?_cons_succ, List.getElem?_cons_succ]; exact this.2⟩
theorem flatH_set : ∀ (X : List StrD) (j : Nat) (x : StrD), ((flatH X).set (j * 2) (.slice (some ⟨x.1, x.2.1, none⟩) x.2.2.1 x.2.2.2.1)).set (j * 2 + 1) (.int .i64 x.2.2.2.2) = flatH (X.set j x)
  | [], j, x => rfl
  | y :: X, 0, x => rfl
  | y :: X, j + 1, x => by
    have := flatH_set X j x
    rw [flatH_cons, show (j + 1) * 2 = j * 2 + 1 + 1 by omega, List.set_cons_succ, List.set_cons_succ, List.set_cons_succ, List.set_cons_succ, this]
    rfl
structure OwnH (w : World) (base g n c : Nat) (X : List StrD) : Prop where
  owns : w.ownsRow base 224 2 (.slice (some ⟨g, 0, none⟩) n c) n (flatH X)
  len : X.length = n
theorem OwnH.lt {w : World} {base g n c : Nat} {X : List StrD} (h : OwnH w base g n c X) : base ≤ g ∧ g < w.heap.size := h.owns.lt g rfl
theorem OwnH.grown {w w' : World} {base g n c : Nat} {X : List StrD} {row : Option Nat} (h : OwnH w base g n c X) (hg : w.grownBy w' row) (hne : some g ≠ row) : OwnH w' base g n c X := ⟨h.owns.kept hg (.inr hne), h.len⟩
theorem OwnH.below {w w' : World} {base g n c : Nat} {X : List StrD} (h : OwnH w base g n c X) (hb : Below w.heap.size w w') : OwnH w' base g n c X :=
  h.grown (row := none) ⟨hb.os, hb.tape, hb.output, hb.size, fun k hk _ => hb.block k hk⟩ (by simp)
theorem OwnH.at2 {w : World} {base g n c i : Nat} {X : List StrD} {x : StrD} (h : OwnH w base g n c X) (hx : X[i]? = some x) : w.cell? ⟨g, i * 2, none⟩ = some (.slice (some ⟨x.1, x.2.1, none⟩) x.2.2.1 x.2.2.2.1) ∧ w.cell? ⟨g, i * 2 + 1, none⟩ = some (.int .i64 x.2.2.2.2) := by
  have hc := h.owns.cells (g := g) rfl
  obtain ⟨h0, h1⟩ := flatH_has X i x hx
  have a0 := hc _ _ h0
  have a1 := hc _ _ h1
  rw [Go.WideShapes.add_plain] at a0 a1
  simp only [Nat.zero_add] at a0 a1
  exact ⟨a0, a1⟩
theorem OwnH.cells {w : World} {base g n c : Nat} {X : List StrD} (h : OwnH w base g n c X) : ∃ cc, w.heap[g]? = some (.cells cc 224 (0, 0)) := by
  rcases h.owns.2 with ⟨hv, _⟩ | ⟨g', cap, cur, hv, _, hg, _⟩
  · cases hv
  · cases hv
    exact ⟨_, hg⟩
def setH (w : World) (g i : Nat) (x : StrD) : World := (w.setCell ⟨g, i * 2, none⟩ (.slice (some ⟨x.1, x.2.1, none⟩) x.2.2.1 x.2.2.2.1)).setCell ⟨g, i * 2 + 1, none⟩ (.int .i64 x.2.2.2.2)
theorem OwnH.setH {w : World} {base g n c i : Nat} {X : List StrD} {x : StrD} (h : OwnH w base g n c X) : OwnH (setH w g i x) base g n c (X.set i x) := by
  have t0 := h.owns.stored (i * 2) (.slice (some ⟨x.1, x.2.1, none⟩) x.2.2.1 x.2.2.2.1)
  have t1 := t0.1.stored (i * 2 + 1) (.int .i64 x.2.2.2.2)
  refine ⟨?_, by simp [h.len]⟩
  have h1 := t1.1
  rw [flatH_set] at h1
  exact h1
theorem grown_cellH (w : World) (g o : Nat) (v : Value) : w.grownBy (w.setCell ⟨g, o, none⟩ v) (some g) :=
  ⟨rfl, rfl, rfl, by simp [World.setCell], fun k _ hk => Below.heap_setCell _ _ _ _ (fun e => hk (by rw [e]))⟩
theorem grown_setH (w : World) (g i : Nat) (x : StrD) : w.grownBy (Go.Proofs.YtapjkbpfhmbfaaaGreatDoor.setH w g i x) (some g) := (grown_cellH _ _ _ _).trans (grown_cellH _ _ _ _)
end Go.Proofs.YtapjkbpfhmbfaaaGreatDoor

namespace Go.Proofs.YtapjkbpfhmbfaaaGreatDoor
open Go.RowKit
set_option maxRecDepth 100000
set_option maxHeartbeats 8000000
attribute [local go_sem] Oper.semAt_some
theorem headsLen (a : Option Addr) (n c : Nat) (w : World) : Calls Tryz.prog 353 #[.slice a n c] w fun e w' => e = .returned (.int .i64 n) ∧ w' = w := by
  go_enter Tryz.func353, Tryz.ntmps353
  go_wp2
  go_ret
  exact ⟨rfl, rfl⟩
theorem headsSwap (base g n c i j : Nat) (X : List StrD) (x y : StrD) (w : World) (hO : OwnH w base g n c X) (hx : X[i]? = some x) (hy : X[j]? = some y) :
    Calls Tryz.prog 355 #[.slice (some ⟨g, 0, none⟩) n c, .int .i64 i, .int .i64 j] w fun e w' => e = .returned (.tuple #[]) ∧ OwnH w' base g n c ((X.set i y).set j x) ∧ w.grownBy w' (some g) := by
  obtain ⟨xb, xo, xn, xc, xk⟩ := x
  obtain ⟨yb, yo, yn, yc, yk⟩ := y
  have HX : Hid (X[i]? = some (xb, xo, xn, xc, xk)) := hx
  have HY : Hid (X[j]? = some (yb, yo, yn, yc, yk)) := hy
  have HLN : Hid (X.length = n) := hO.len
  have HI : Hid (i < n) := by have := (List.getElem?_eq_some_iff.1 hx).1; have := hO.len; show i < n; omega
  have HJ : Hid (j < n) := by have := (List.getElem?_eq_some_iff.1 hy).1; have := hO.len; show j < n; omega
  have pi : (i : Int) < (n : Int) := by have := HI.out; omega
  have pj : (j : Int) < (n : Int) := by have := HJ.out; omega
  have k0 : OwnH w.drew base g n c X := hO.below (Below.refl _ w).drew
  have gd : w.grownBy w.drew (some g) := ⟨rfl, rfl, rfl, Nat.le_refl _, fun _ _ _ => rfl⟩
  clear hx hy hO
  go_enter Tryz.func355, Tryz.ntmps355
  go_wp2_with fail
  refine wp_region_held_drew (S := (fun w' => g < w'.heap.size)) (by kernel_rfl) (by exact k0.lt.2) (fun hHeld => ?_)
  generalize w.drew = wd at k0 gd hHeld ⊢
  refine tkL 0 hHeld ?_; try go_frame
  refine tkL 1 hHeld ?_; try go_frame
  refine tkL 2 hHeld ?_; try go_frame
  refine tkL 3 hHeld ?_; try go_frame
  refine tkL 4 hHeld ?_; try go_frame
  refine tkL 5 hHeld ?_; try go_frame
  refine tkL 6 hHeld ?_; try go_frame
  refine tkL 8 hHeld ?_; try go_frame
  refine tkL 9 hHeld ?_; try go_frame
  refine tkL 10 hHeld ?_; try go_frame
  refine wpAnyH_ready (rs := [7, 11]) (by kernel_rfl) (by simp) ?_
  refine consL rfl (fun K hK => ?_) (consL rfl (fun K hK => ?_) AllReadyH.nil)
  · obtain ⟨lc0, lc1⟩ := k0.at2 HY.out
    simp only at lc0 lc1
    have lcl := k0.lt.2
    go_simp
    clear lc0 lc1 lcl
    refine hK.out _ _ (by exact k0.lt.2) (fun hHeld => ?_)
    clear hK K
    try go_frame
    refine wpAnyH_ready (rs := [11]) (by kernel_rfl) (by simp) ?_
    refine consL rfl (fun K hK => ?_) AllReadyH.nil
    obtain ⟨lc0, lc1⟩ := k0.at2 HX.out
    simp only at lc0 lc1
    have lcl := k0.lt.2
    go_simp
    clear lc0 lc1 lcl
    refine hK.out _ _ (by exact k0.lt.2) (fun hHeld => ?_)
    clear hK K
    try go_frame
    refine tkL 12 hHeld ?_; try go_frame
    refine wpAnyH_ready (rs := [13]) (by kernel_rfl) (by simp) ?_
    refine consL rfl (fun K hK => ?_) AllReadyH.nil
    obtain ⟨lc0, lc1⟩ := k0.at2 HX.out
    simp only at lc0 lc1
    have lcl := k0.lt.2
    have lf := k0.owns.frozenAt
    have f0 := lf (i * 2)
    have f1 := lf (i * 2 + 1)
    clear lf
    go_simp
    clear lc0 lc1 lcl f0 f1
    have k1 := k0.setH (i := i) (x := (yb, yo, yn, yc, yk))
    refine hK.out _ (setH wd g i (yb, yo, yn, yc, yk)) (by exact k1.lt.2) (fun hHeld => ?_)
    clear hK K
    have gw1 := grown_setH wd g i (yb, yo, yn, yc, yk)
    generalize setH wd g i (yb, yo, yn, yc, yk) = w1' at k1 gw1 hHeld ⊢
    try go_frame
    refine tkL 14 hHeld ?_; try go_frame
    refine wpAnyH_ready (rs := [15]) (by kernel_rfl) (by simp) ?_
    refine consL rfl (fun K hK => ?_) AllReadyH.nil
    obtain ⟨⟨zb, zo, zn, zc, zk⟩, HZ⟩ : ∃ z, (X.set i (yb, yo, yn, yc, yk))[j]? = some z := ⟨_, List.getElem?_eq_getElem (by rw [List.length_set, HLN.out]; exact HJ.out)⟩
    obtain ⟨lc0, lc1⟩ := k1.at2 HZ
    simp only at lc0 lc1
    have lcl := k1.lt.2
    have lf := k1.owns.frozenAt
    have f0 := lf (j * 2)
    have f1 := lf (j * 2 + 1)
    clear lf
    go_simp
    clear lc0 lc1 lcl f0 f1 HZ
    have k2 := k1.setH (i := j) (x := (xb, xo, xn, xc, xk))
    refine hK.out _ (setH w1' g j (xb, xo, xn, xc, xk)) (by exact k2.lt.2) (fun hHeld => ?_)
    clear hK K
    have gw : wd.grownBy (setH w1' g j (xb, xo, xn, xc, xk)) (some g) := gw1.trans (grown_setH w1' g j (xb, xo, xn, xc, xk))
    generalize setH w1' g j (xb, xo, xn, xc, xk) = w2' at k2 gw hHeld ⊢
    try go_frame
    refine wpAnyH_done (by kernel_rfl) ?_ _
    have HK2 : Hid (OwnH w2' base g n c ((X.set i (yb, yo, yn, yc, yk)).set j (xb, xo, xn, xc, xk))) := k2
    have HG2 : Hid (w.grownBy w2' (some g)) := gd.trans gw
    clear k2 gw k0 k1 gw1 gd hHeld
    go_wp2
    go_end0
    exact ⟨rfl, HK2.out, HG2.out⟩
  · obtain ⟨lc0, lc1⟩ := k0.at2 HX.out
    simp only at lc0 lc1
    have lcl := k0.lt.2
    go_simp
    clear lc0 lc1 lcl
    refine hK.out _ _ (by exact k0.lt.2) (fun hHeld => ?_)
    clear hK K
    try go_frame
    refine wpAnyH_ready (rs := [7]) (by kernel_rfl) (by simp) ?_
    refine consL rfl (fun K hK => ?_) AllReadyH.nil
    obtain ⟨lc0, lc1⟩ := k0.at2 HY.out
    simp only at lc0 lc1
    have lcl := k0.lt.2
    go_simp
    clear lc0 lc1 lcl
    refine hK.out _ _ (by exact k0.lt.2) (fun hHeld => ?_)
    clear hK K
    try go_frame
    refine tkL 12 hHeld ?_; try go_frame
    refine wpAnyH_ready (rs := [13]) (by kernel_rfl) (by simp) ?_
    refine consL rfl (fun K hK => ?_) AllReadyH.nil
    obtain ⟨lc0, lc1⟩ := k0.at2 HX.out
    simp only at lc0 lc1
    have lcl := k0.lt.2
    have lf := k0.owns.frozenAt
    have f0 := lf (i * 2)
    have f1 := lf (i * 2 + 1)
    clear lf
    go_simp
    clear lc0 lc1 lcl f0 f1
    have k1 := k0.setH (i := i) (x := (yb, yo, yn, yc, yk))
    refine hK.out _ (setH wd g i (yb, yo, yn, yc, yk)) (by exact k1.lt.2) (fun hHeld => ?_)
    clear hK K
    have gw1 := grown_setH wd g i (yb, yo, yn, yc, yk)
    generalize setH wd g i (yb, yo, yn, yc, yk) = w1' at k1 gw1 hHeld ⊢
    try go_frame
    refine tkL 14 hHeld ?_; try go_frame
    refine wpAnyH_ready (rs := [15]) (by kernel_rfl) (by simp) ?_
    refine consL rfl (fun K hK => ?_) AllReadyH.nil
    obtain ⟨⟨zb, zo, zn, zc, zk⟩, HZ⟩ : ∃ z, (X.set i (yb, yo, yn, yc, yk))[j]? = some z := ⟨_, List.getElem?_eq_getElem (by rw [List.length_set, HLN.out]; exact HJ.out)⟩
    obtain ⟨lc0, lc1⟩ := k1.at2 HZ
    simp only at lc0 lc1
    have lcl := k1.lt.2
    have lf := k1.owns.frozenAt
    have f0 := lf (j * 2)
    have f1 := lf (j * 2 + 1)
    clear lf
    go_simp
    clear lc0 lc1 lcl f0 f1 HZ
    have k2 := k1.setH (i := j) (x := (xb, xo, xn, xc, xk))
    refine hK.out _ (setH w1' g j (xb, xo, xn, xc, xk)) (by exact k2.lt.2) (fun hHeld => ?_)
    clear hK K
    have gw : wd.grownBy (setH w1' g j (xb, xo, xn, xc, xk)) (some g) := gw1.trans (grown_setH w1' g j (xb, xo, xn, xc, xk))
    generalize setH w1' g j (xb, xo, xn, xc, xk) = w2' at k2 gw hHeld ⊢
    try go_frame
    refine wpAnyH_done (by kernel_rfl) ?_ _
    have HK2 : Hid (OwnH w2' base g n c ((X.set i (yb, yo, yn, yc, yk)).set j (xb, xo, xn, xc, xk))) := k2
    have HG2 : Hid (w.grownBy w2' (some g)) := gd.trans gw
    clear k2 gw k0 k1 gw1 gd hHeld
    go_wp2
    go_end0
    exact ⟨rfl, HK2.out, HG2.out⟩
end Go.Proofs.YtapjkbpfhmbfaaaGreatDoor
