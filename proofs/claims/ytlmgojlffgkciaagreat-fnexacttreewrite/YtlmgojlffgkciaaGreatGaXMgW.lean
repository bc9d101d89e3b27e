/-
  The program's heads: two stretches exchanged, and how many there are, by walks of its Go text.
-/
import Derived.Deep.RegionLaw
import Derived.Deep.RegionHeld3
import Derived.Test.YtlmgojlffgkciaaGreatGaXMgR
import Derived.Test.YtlmgojlffgkciaaGreatGa01
namespace Go.Proofs.YtlmgojlffgkciaaGreat
open Go.RowKit
set_option maxRecDepth 100000
set_option maxHeartbeats 8000000
attribute [local go_sem] Oper.semAt_some
theorem headsLen (a : Option Addr) (n c : Nat) (w : World) : Calls Tryz.prog 256 #[.slice a n c] w fun e w' => e = .returned (.int .i64 n) ∧ w' = w := by
  go_enter Tryz.func256, Tryz.ntmps256
  go_wp2
  go_ret
  exact ⟨rfl, rfl⟩
theorem headsSwap (base g n c i j : Nat) (X : List StrD) (x y : StrD) (w : World) (hO : OwnH w base g n c X) (hx : X[i]? = some x) (hy : X[j]? = some y) :
    Calls Tryz.prog 258 #[.slice (some ⟨g, 0, none⟩) n c, .int .i64 i, .int .i64 j] w fun e w' => e = .returned (.tuple #[]) ∧ OwnH w' base g n c ((X.set i y).set j x) ∧ w.grownBy w' (some g) := by
  obtain ⟨xb, xo, xn, xc, xk⟩ := x
  obtain ⟨yb, yo, yn, yc, yk⟩ := y
  have HX : Hid (X[i]? = some (xb, xo, xn, xc, xk)) := hx
  have HY : Hid (X[j]? = some (yb, yo, yn, yc, yk)) := hy
  have HLN : Hid (X.length = n) := hO.len
  have HI : Hid (i < n) := by have := (List.getElem?_eq_some_iff.1 hx).1; have := hO.len; show i < n; omega
  have HJ : Hid (j < n) := by have := (List.getElem?_eq_some_iff.1 hy).1; have := hO.len; show j < n; omega
  have pi : (i : Int) < (n : Int) := by have := HI.out; omega
  have pj : (j : Int) < (n : Int) := by have := HJ.out; omega
  have k0 : OwnH w.drew base g n c X := hO.below (Below.refl _ w).drew
  have gd : w.grownBy w.drew (some g) := ⟨rfl, rfl, rfl, Nat.le_refl _, fun _ _ _ => rfl⟩
  clear hx hy hO
  go_enter Tryz.func258, Tryz.ntmps258
  go_wp2_with fail
  refine wp_region_held_drew (S := (fun w' => g < w'.heap.size)) (by kernel_rfl) (by exact k0.lt.2) (fun hHeld => ?_)
  generalize w.drew = wd at k0 gd hHeld ⊢
  refine tkL 0 hHeld ?_; try go_frame
  refine tkL 1 hHeld ?_; try go_frame
  refine tkL 2 hHeld ?_; try go_frame
  refine tkL 3 hHeld ?_; try go_frame
  refine tkL 4 hHeld ?_; try go_frame
  refine tkL 5 hHeld ?_; try go_frame
  refine tkL 6 hHeld ?_; try go_frame
  refine tkL 8 hHeld ?_; try go_frame
  refine tkL 9 hHeld ?_; try go_frame
  refine tkL 10 hHeld ?_; try go_frame
  refine wpAnyH_ready (rs := [7, 11]) (by kernel_rfl) (by simp) ?_
  refine consL rfl (fun K hK => ?_) (consL rfl (fun K hK => ?_) AllReadyH.nil)
  · obtain ⟨lc0, lc1⟩ := k0.at2 HY.out
    simp only at lc0 lc1
    have lcl := k0.lt.2
    go_simp
    clear lc0 lc1 lcl
    refine hK.out _ _ (by exact k0.lt.2) (fun hHeld => ?_)
    clear hK K
    try go_frame
    refine wpAnyH_ready (rs := [11]) (by kernel_rfl) (by simp) ?_
    refine consL rfl (fun K hK => ?_) AllReadyH.nil
    obtain ⟨lc0, lc1⟩ := k0.at2 HX.out
    simp only at lc0 lc1
    have lcl := k0.lt.2
    go_simp
    clear lc0 lc1 lcl
    refine hK.out _ _ (by exact k0.lt.2) (fun hHeld => ?_)
    clear hK K
    try go_frame
    refine tkL 12 hHeld ?_; try go_frame
    refine wpAnyH_ready (rs := [13]) (by kernel_rfl) (by simp) ?_
    refine consL rfl (fun K hK => ?_) AllReadyH.nil
    obtain ⟨lc0, lc1⟩ := k0.at2 HX.out
    simp only at lc0 lc1
    have lcl := k0.lt.2
    have lf := k0.owns.frozenAt
    have f0 := lf (i * 2)
    have f1 := lf (i * 2 + 1)
    clear lf
    go_simp
    clear lc0 lc1 lcl f0 f1
    have k1 := k0.setH (i := i) (x := (yb, yo, yn, yc, yk))
    refine hK.out _ (setH wd g i (yb, yo, yn, yc, yk)) (by exact k1.lt.2) (fun hHeld => ?_)
    clear hK K
    have gw1 := grown_setH wd g i (yb, yo, yn, yc, yk)
    generalize setH wd g i (yb, yo, yn, yc, yk) = w1' at k1 gw1 hHeld ⊢
    try go_frame
    refine tkL 14 hHeld ?_; try go_frame
    refine wpAnyH_ready (rs := [15]) (by kernel_rfl) (by simp) ?_
    refine consL rfl (fun K hK => ?_) AllReadyH.nil
    obtain ⟨⟨zb, zo, zn, zc, zk⟩, HZ⟩ : ∃ z, (X.set i (yb, yo, yn, yc, yk))[j]? = some z := ⟨_, List.getElem?_eq_getElem (by rw [List.length_set, HLN.out]; exact HJ.out)⟩
    obtain ⟨lc0, lc1⟩ := k1.at2 HZ
    simp only at lc0 lc1
    have lcl := k1.lt.2
    have lf := k1.owns.frozenAt
    have f0 := lf (j * 2)
    have f1 := lf (j * 2 + 1)
    clear lf
    go_simp
    clear lc0 lc1 lcl f0 f1 HZ
    have k2 := k1.setH (i := j) (x := (xb, xo, xn, xc, xk))
    refine hK.out _ (setH w1' g j (xb, xo, xn, xc, xk)) (by exact k2.lt.2) (fun hHeld => ?_)
    clear hK K
    have gw : wd.grownBy (setH w1' g j (xb, xo, xn, xc, xk)) (some g) := gw1.trans (grown_setH w1' g j (xb, xo, xn, xc, xk))
    generalize setH w1' g j (xb, xo, xn, xc, xk) = w2' at k2 gw hHeld ⊢
    try go_frame
    refine wpAnyH_done (by kernel_rfl) ?_ _
    have HK2 : Hid (OwnH w2' base g n c ((X.set i (yb, yo, yn, yc, yk)).set j (xb, xo, xn, xc, xk))) := k2
    have HG2 : Hid (w.grownBy w2' (some g)) := gd.trans gw
    clear k2 gw k0 k1 gw1 gd hHeld
    go_wp2
    go_end0
    exact ⟨rfl, HK2.out, HG2.out⟩
  · obtain ⟨lc0, lc1⟩ := k0.at2 HX.out
    simp only at lc0 lc1
    have lcl := k0.lt.2
    go_simp
    clear lc0 lc1 lcl
    refine hK.out _ _ (by exact k0.lt.2) (fun hHeld => ?_)
    clear hK K
    try go_frame
    refine wpAnyH_ready (rs := [7]) (by kernel_rfl) (by simp) ?_
    refine consL rfl (fun K hK => ?_) AllReadyH.nil
    obtain ⟨lc0, lc1⟩ := k0.at2 HY.out
    simp only at lc0 lc1
    have lcl := k0.lt.2
    go_simp
    clear lc0 lc1 lcl
    refine hK.out _ _ (by exact k0.lt.2) (fun hHeld => ?_)
    clear hK K
    try go_frame
    refine tkL 12 hHeld ?_; try go_frame
    refine wpAnyH_ready (rs := [13]) (by kernel_rfl) (by simp) ?_
    refine consL rfl (fun K hK => ?_) AllReadyH.nil
    obtain ⟨lc0, lc1⟩ := k0.at2 HX.out
    simp only at lc0 lc1
    have lcl := k0.lt.2
    have lf := k0.owns.frozenAt
    have f0 := lf (i * 2)
    have f1 := lf (i * 2 + 1)
    clear lf
    go_simp
    clear lc0 lc1 lcl f0 f1
    have k1 := k0.setH (i := i) (x := (yb, yo, yn, yc, yk))
    refine hK.out _ (setH wd g i (yb, yo, yn, yc, yk)) (by exact k1.lt.2) (fun hHeld => ?_)
    clear hK K
    have gw1 := grown_setH wd g i (yb, yo, yn, yc, yk)
    generalize setH wd g i (yb, yo, yn, yc, yk) = w1' at k1 gw1 hHeld ⊢
    try go_frame
    refine tkL 14 hHeld ?_; try go_frame
    refine wpAnyH_ready (rs := [15]) (by kernel_rfl) (by simp) ?_
    refine consL rfl (fun K hK => ?_) AllReadyH.nil
    obtain ⟨⟨zb, zo, zn, zc, zk⟩, HZ⟩ : ∃ z, (X.set i (yb, yo, yn, yc, yk))[j]? = some z := ⟨_, List.getElem?_eq_getElem (by rw [List.length_set, HLN.out]; exact HJ.out)⟩
    obtain ⟨lc0, lc1⟩ := k1.at2 HZ
    simp only at lc0 lc1
    have lcl := k1.lt.2
    have lf := k1.owns.frozenAt
    have f0 := lf (j * 2)
    have f1 := lf (j * 2 + 1)
    clear lf
    go_simp
    clear lc0 lc1 lcl f0 f1 HZ
    have k2 := k1.setH (i := j) (x := (xb, xo, xn, xc, xk))
    refine hK.out _ (setH w1' g j (xb, xo, xn, xc, xk)) (by exact k2.lt.2) (fun hHeld => ?_)
    clear hK K
    have gw : wd.grownBy (setH w1' g j (xb, xo, xn, xc, xk)) (some g) := gw1.trans (grown_setH w1' g j (xb, xo, xn, xc, xk))
    generalize setH w1' g j (xb, xo, xn, xc, xk) = w2' at k2 gw hHeld ⊢
    try go_frame
    refine wpAnyH_done (by kernel_rfl) ?_ _
    have HK2 : Hid (OwnH w2' base g n c ((X.set i (yb, yo, yn, yc, yk)).set j (xb, xo, xn, xc, xk))) := k2
    have HG2 : Hid (w.grownBy w2' (some g)) := gd.trans gw
    clear k2 gw k0 k1 gw1 gd hHeld
    go_wp2
    go_end0
    exact ⟨rfl, HK2.out, HG2.out⟩
end Go.Proofs.YtlmgojlffgkciaaGreat
