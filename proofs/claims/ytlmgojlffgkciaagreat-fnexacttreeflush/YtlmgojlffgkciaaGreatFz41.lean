/-
  Rows of entries in memory of the call's own, as the library's stable sort writes into them: two entries exchanged, a stretch put in order.
  The library's exchange of two stretches of a row, and its turning round of two neighbouring stretches, by walks of their Go text.
  The library's turning round of a row of entries, by a walk of its Go text.
-/
import Derived.Deep.RegionLaw
import Derived.Deep.RegionHeld3
import Derived.Ground.SlsfProg
import Derived.Shelf.SlSortCmp.InsertionK
import Derived.Test.YtlmgojlffgkciaaGreatFz34
import Derived.Test.YtlmgojlffgkciaaGreatProg
import Derived.Test.YtlmgojlffgkciaaGreatFz33
import Derived.Test.YtlmgojlffgkciaaGreatFz09
import Derived.Test.YtlmgojlffgkciaaGreatFz29
namespace Go.Proofs.YtlmgojlffgkciaaGreat
open Go.RowKit Go.Sort
theorem OwnE.block {w : World} {base g n c : Nat} {L : List EntD} (h : OwnE w base g n c L) : ∃ cur, w.heap[g]? = some (.cells cur 78 (0, 0)) ∧ cur.size = c * 5 := by
  rcases h.owns.2 with ⟨hv, _⟩ | ⟨g', cap, cur, hv, _, h2, _, _, h5, _⟩
  · cases hv
  · cases hv
    exact ⟨cur, h2, h5⟩
def setE (w : World) (g i : Nat) (e : EntD) : World := ((((w.setCell ⟨g, i * 5, none⟩ (.string e.1)).setCell ⟨g, i * 5 + 1, none⟩ (.int .i64 e.2.1)).setCell ⟨g, i * 5 + 2, none⟩ (.int .i64 e.2.2.1)).setCell ⟨g, i * 5 + 3, none⟩ (.string e.2.2.2.1)).setCell ⟨g, i * 5 + 4, none⟩ (.int .i64 e.2.2.2.2)
set_option maxHeartbeats 1000000 in
theorem OwnE.setE {w : World} {base g n c i : Nat} {L : List EntD} {e : EntD} (h : OwnE w base g n c L) (hi : i < n) (hw : EntW e) : OwnE (setE w g i e) base g n c (L.set i e) := by
  obtain ⟨s, q, d, t, nn⟩ := e
  have t0 := h.owns.stored (i * 5) (.string s)
  have t1 := t0.1.stored (i * 5 + 1) (.int .i64 q)
  have t2 := t1.1.stored (i * 5 + 2) (.int .i64 d)
  have t3 := t2.1.stored (i * 5 + 3) (.string t)
  have t4 := t3.1.stored (i * 5 + 4) (.int .i64 nn)
  have hl := h.len
  have hx : (flatE L).length = n * 5 := by rw [flatE_len, hl]
  have hf : ((((((flatE L).set (i * 5) (.string s)).set (i * 5 + 1) (.int .i64 q)).set (i * 5 + 2) (.int .i64 d)).set (i * 5 + 3) (.string t)).set (i * 5 + 4) (.int .i64 nn)) = flatE (L.set i (s, q, d, t, nn)) := row_flat (by simp [hx, hl]) (fun j l hj => by
    by_cases hji : j = i
    · subst hji
      rw [List.getElem?_set_self (by omega)] at hj
      cases hj
      exact rowEnt_same s t q d nn (by omega)
    · rw [List.getElem?_set_ne (Ne.symm hji)] at hj
      exact rowEnt_other (flatE_has L j l hj) hji _ _ _ _ _)
  refine ⟨?_, by simp [hl], fun l hl' => ?_⟩
  · have h4 := t4.1
    rw [hf] at h4
    exact h4
  · rcases List.mem_or_eq_of_mem_set hl' with h1 | h1
    · exact h.ents l h1
    · rw [h1]; exact hw
theorem grown_cellE (w : World) (g o : Nat) (v : Value) : w.grownBy (w.setCell ⟨g, o, none⟩ v) (some g) :=
  ⟨rfl, rfl, rfl, by simp [World.setCell], fun k _ hk => Below.heap_setCell _ _ _ _ (fun e => hk (by rw [e]))⟩
theorem grown_setE (w : World) (g i : Nat) (e : EntD) : w.grownBy (Go.Proofs.YtlmgojlffgkciaaGreat.setE w g i e) (some g) :=
  grown_trans (grown_trans (grown_trans (grown_trans (grown_cellE _ _ _ _) (grown_cellE _ _ _ _)) (grown_cellE _ _ _ _)) (grown_cellE _ _ _ _)) (grown_cellE _ _ _ _)
end Go.Proofs.YtlmgojlffgkciaaGreat
namespace Go.Proofs.YtlmgojlffgkciaaGreat
open Go.RowKit
attribute [local go_sem] Oper.semAt_some
theorem OwnE.at5 {w : World} {base g n c i : Nat} {L : List EntD} {s t : ByteArray} {q d nn : Int} (h : OwnE w base g n c L) (hx : L[i]? = some (s, q, d, t, nn)) : w.cell? ⟨g, i * 5, none⟩ = some (.string s) ∧ w.cell? ⟨g, i * 5 + 1, none⟩ = some (.int .i64 q) ∧ w.cell? ⟨g, i * 5 + 2, none⟩ = some (.int .i64 d) ∧ w.cell? ⟨g, i * 5 + 3, none⟩ = some (.string t) ∧ w.cell? ⟨g, i * 5 + 4, none⟩ = some (.int .i64 nn) := by
  obtain ⟨hi, he⟩ := List.getElem?_eq_some_iff.1 hx
  obtain ⟨c0, c1, c2, c3, c4⟩ := h.entsAt.cells _ rfl i hi
  rw [he] at c0 c1 c2 c3 c4
  simp only [Nat.zero_add] at c0 c1 c2 c3 c4
  exact ⟨c0, c1, c2, c3, c4⟩
theorem grown_drewE (w : World) (g : Nat) : w.grownBy w.drew (some g) := ⟨rfl, rfl, rfl, Nat.le_refl _, fun _ _ _ => rfl⟩
end Go.Proofs.YtlmgojlffgkciaaGreat

namespace Go.Proofs.YtlmgojlffgkciaaGreat
open Go.RowKit
set_option maxRecDepth 100000
set_option maxHeartbeats 16000000
attribute [local go_sem] Oper.semAt_some
theorem setR_two (X M Y : List EntD) (p q : EntD) {i j : Nat} (hi : i = X.length) (hj : j = X.length + 1 + M.length) : ((X ++ p :: (M ++ q :: Y)).set i q).set j p = X ++ q :: (M ++ p :: Y) := by
  subst hi hj
  rw [List.set_append_right _ _ (Nat.le_refl _), Nat.sub_self, List.set_cons_zero, List.set_append_right _ _ (by omega), show X.length + 1 + M.length - X.length = M.length + 1 by omega, List.set_cons_succ, List.set_append_right _ _ (Nat.le_refl _), Nat.sub_self, List.set_cons_zero]
theorem getR_two (X M Y : List EntD) (p q : EntD) {i j : Nat} (hi : i = X.length) (hj : j = X.length + 1 + M.length) : (X ++ p :: (M ++ q :: Y))[i]? = some p ∧ (X ++ p :: (M ++ q :: Y))[j]? = some q := by
  subst hi hj
  constructor
  · rw [List.getElem?_append_right (Nat.le_refl _), Nat.sub_self, List.getElem?_cons_zero]
  · rw [List.getElem?_append_right (by omega), show X.length + 1 + M.length - X.length = M.length + 1 by omega, List.getElem?_cons_succ, List.getElem?_append_right (Nat.le_refl _), Nat.sub_self, List.getElem?_cons_zero]
theorem ends_two (Z : List EntD) (h : 2 ≤ Z.length) : ∃ p M q, Z = p :: (M ++ [q]) := by
  match Z, h with
  | p :: b :: R, _ => exact ⟨p, (b :: R).dropLast, (b :: R).getLast (by simp), by rw [List.dropLast_concat_getLast]⟩
theorem revNil (w : World) : Calls Tryz.prog 150 #[.slice none 0 0] w fun e w' => e = .returned (.tuple #[]) ∧ w' = w := by
  have rn : IntKind.i64.wrap ((0 : Int) - 1) = -1 := by decide
  go_enter Tryz.func150, Tryz.ntmps150
  go_wp2
  go_loopw [2, 3] (fun iv jv wr => iv = .int .i64 0 ∧ jv = .int .i64 (-1) ∧ wr = w) (fun _ _ _ => 0)
  case atStart => exact ⟨rfl, rfl, rfl⟩
  case round =>
    obtain ⟨rfl, rfl, rfl⟩ := hrel
    go_wp2
    go_end0
    exact ⟨rfl, rfl⟩
theorem revE (base g n c : Nat) (L : List EntD) (w : World) (hO : OwnE w base g n c L) (hn : n ≤ 1048576) :
    Calls Tryz.prog 150 #[.slice (some ⟨g, 0, none⟩) n c] w fun e w' => e = .returned (.tuple #[]) ∧ OwnE w' base g n c L.reverse ∧ w.grownBy w' (some g) := by
  have rn : IntKind.i64.wrap ((n : Int) - 1) = (n : Int) - 1 := by rw [IntKind.wrap_i64]; omega
  have hcb := hO.entsAt.big
  have hcr := hO.entsAt.room
  unfold maxLen at hcb
  have HO : Hid (OwnE w base g n c L) := hO
  clear hO
  go_enter Tryz.func150, Tryz.ntmps150
  go_wp2
  go_loopw [2, 3] (fun iv jv wr => ∃ (i : Nat) (X M Y : List EntD), iv = .int .i64 i ∧ jv = .int .i64 ((n : Int) - 1 - i) ∧ X.length = i ∧ Y.length = i ∧ L.reverse = X ++ (M.reverse ++ Y) ∧ OwnE wr base g n c (X ++ (M ++ Y)) ∧ w.grownBy wr (some g)) (fun iv _ _ => n - (intOf iv).toNat)
  case atStart => exact ⟨0, [], L, [], rfl, by simp, rfl, rfl, by simp, by simpa using HO.out, ⟨rfl, rfl, rfl, Nat.le_refl _, fun _ _ _ => rfl⟩⟩
  case round =>
    obtain ⟨i, X, Z, Y, rfl, rfl, hxl, hyl, hrv, hOi, hGi⟩ := hrel
    have hlen : X.length + (Z.length + Y.length) = n := by have := hOi.len; simpa using this
    have HGR : Hid (w.grownBy wr (some g)) := hGi
    clear hGi HO
    by_cases hz : 2 ≤ Z.length
    · obtain ⟨⟨s, q, d, t, nn⟩, M, ⟨s', q', d', t', nn'⟩, rfl⟩ := ends_two Z hz
      simp only [List.length_cons, List.length_append, List.length_nil] at hlen hz
      obtain ⟨j, hj⟩ : ∃ j, j = i + 1 + M.length := ⟨_, rfl⟩
      have hje : (n : Int) - 1 - (i : Int) = (j : Int) := by omega
      rw [hje]
      have HJE : Hid ((n : Int) - 1 - (i : Int) = (j : Int)) := hje
      have HXL : Hid (X.length = i) := hxl
      have HYL : Hid (Y.length = i) := hyl
      have HLE : Hid (i < n) := by show i < n; omega
      have hg2 := getR_two X M Y (s, q, d, t, nn) (s', q', d', t', nn') (i := i) (j := j) hxl.symm (by omega)
      have HX : Hid ((X ++ (s, q, d, t, nn) :: (M ++ (s', q', d', t', nn') :: Y))[i]? = some (s, q, d, t, nn)) := hg2.1
      have HY : Hid ((X ++ (s, q, d, t, nn) :: (M ++ (s', q', d', t', nn') :: Y))[j]? = some (s', q', d', t', nn')) := hg2.2
      have HSW : Hid (((X ++ (s, q, d, t, nn) :: (M ++ (s', q', d', t', nn') :: Y)).set i (s', q', d', t', nn')).set j (s, q, d, t, nn) = X ++ (s', q', d', t', nn') :: (M ++ (s, q, d, t, nn) :: Y)) := setR_two X M Y _ _ hxl.symm (by omega)
      have HRV : Hid (L.reverse = (X ++ [(s', q', d', t', nn')]) ++ (M.reverse ++ (s, q, d, t, nn) :: Y)) := by show L.reverse = _; rw [hrv]; simp
      have HI : Hid (i < n) := by show i < n; omega
      have HJ : Hid (j < n) := by show j < n; omega
      have HIJ : Hid (i ≠ j) := by show i ≠ j; omega
      have pi : (i : Int) < (n : Int) := by omega
      have pj : (j : Int) < (n : Int) := by omega
      have pij : (i : Int) < (j : Int) := by omega
      have ri : IntKind.i64.wrap ((i : Int) + 1) = ((i + 1 : Nat) : Int) := by rw [IntKind.wrap_i64]; omega
      have rj : IntKind.i64.wrap ((j : Int) - 1) = (j : Int) - 1 := by rw [IntKind.wrap_i64]; omega
      have k0 : OwnE wr.drew base g n c (X ++ (s, q, d, t, nn) :: (M ++ (s', q', d', t', nn') :: Y)) := by
        have h : OwnE wr base g n c (X ++ (s, q, d, t, nn) :: (M ++ (s', q', d', t', nn') :: Y)) := by simpa using hOi
        exact h.below (Below.refl _ _).drew
      have gd : w.grownBy wr.drew (some g) := grown_trans HGR.out (grown_drewE _ _)
      clear hg2 hj hje hxl hyl hrv hOi hlen hz
      go_wp2_with fail
      refine wp_region_held_drew (S := (fun w' => g < w'.heap.size)) (by kernel_rfl) (by exact k0.lt.2) (fun hHeld => ?_)
      generalize wr.drew = wd at k0 gd hHeld ⊢
      refine tkL 0 hHeld ?_; try go_frame
      refine tkL 1 hHeld ?_; try go_frame
      refine tkL 2 hHeld ?_; try go_frame
      refine tkL 3 hHeld ?_; try go_frame
      refine tkL 4 hHeld ?_; try go_frame
      refine tkL 5 hHeld ?_; try go_frame
      refine tkL 6 hHeld ?_; try go_frame
      refine tkL 8 hHeld ?_; try go_frame
      refine tkL 9 hHeld ?_; try go_frame
      refine tkL 10 hHeld ?_; try go_frame
      refine wpAnyH_ready (rs := [7, 11]) (by kernel_rfl) (by simp) ?_
      refine consL rfl (fun K hK => ?_) (consL rfl (fun K hK => ?_) AllReadyH.nil)
      · obtain ⟨lc0, lc1, lc2, lc3, lc4⟩ := k0.at5 HY.out
        have lcl := k0.lt.2
        go_simp
        clear lc0 lc1 lc2 lc3 lc4 lcl
        refine hK.out _ _ (by exact k0.lt.2) (fun hHeld => ?_)
        clear hK K
        try go_frame
        refine wpAnyH_ready (rs := [11]) (by kernel_rfl) (by simp) ?_
        refine consL rfl (fun K hK => ?_) AllReadyH.nil
        obtain ⟨lc0, lc1, lc2, lc3, lc4⟩ := k0.at5 HX.out
        have lcl := k0.lt.2
        go_simp
        clear lc0 lc1 lc2 lc3 lc4 lcl
        refine hK.out _ _ (by exact k0.lt.2) (fun hHeld => ?_)
        clear hK K
        try go_frame
        refine tkL 12 hHeld ?_; try go_frame
        refine wpAnyH_ready (rs := [13]) (by kernel_rfl) (by simp) ?_
        refine consL rfl (fun K hK => ?_) AllReadyH.nil
        obtain ⟨lc0, lc1, lc2, lc3, lc4⟩ := k0.at5 HX.out
        have lcl := k0.lt.2
        have lf := k0.owns.frozenAt
        have f0 := lf ((i) * 5)
        have f1 := lf ((i) * 5 + 1)
        have f2 := lf ((i) * 5 + 2)
        have f3 := lf ((i) * 5 + 3)
        have f4 := lf ((i) * 5 + 4)
        clear lf
        go_simp
        clear lc0 lc1 lc2 lc3 lc4 lcl
        clear f0 f1 f2 f3 f4
        have k1 := k0.setE (i := i) (e := (s', q', d', t', nn')) HI.out (k0.ents _ (List.mem_of_getElem? HY.out))
        refine hK.out _ (setE wd g (i) (s', q', d', t', nn')) (by exact k1.lt.2) (fun hHeld => ?_)
        clear hK K
        have gw1 := grown_setE wd g (i) (s', q', d', t', nn')
        generalize setE wd g (i) (s', q', d', t', nn') = w1' at k1 gw1 hHeld ⊢
        try go_frame
        refine tkL 14 hHeld ?_; try go_frame
        refine wpAnyH_ready (rs := [15]) (by kernel_rfl) (by simp) ?_
        refine consL rfl (fun K hK => ?_) AllReadyH.nil
        have HY1 : ((X ++ (s, q, d, t, nn) :: (M ++ (s', q', d', t', nn') :: Y)).set (i) (s', q', d', t', nn'))[j]? = some (s', q', d', t', nn') := by rw [List.getElem?_set_ne HIJ.out]; exact HY.out
        obtain ⟨lc0, lc1, lc2, lc3, lc4⟩ := k1.at5 HY1
        have lcl := k1.lt.2
        have lf := k1.owns.frozenAt
        have f0 := lf ((j) * 5)
        have f1 := lf ((j) * 5 + 1)
        have f2 := lf ((j) * 5 + 2)
        have f3 := lf ((j) * 5 + 3)
        have f4 := lf ((j) * 5 + 4)
        clear lf
        go_simp
        clear lc0 lc1 lc2 lc3 lc4 lcl
        clear f0 f1 f2 f3 f4
        have k2 := k1.setE (i := j) (e := (s, q, d, t, nn)) HJ.out (k0.ents _ (List.mem_of_getElem? HX.out))
        refine hK.out _ (setE w1' g (j) (s, q, d, t, nn)) (by exact k2.lt.2) (fun hHeld => ?_)
        clear hK K
        have gw : wd.grownBy (setE w1' g (j) (s, q, d, t, nn)) (some g) := grown_trans gw1 (grown_setE w1' g (j) (s, q, d, t, nn))
        generalize setE w1' g (j) (s, q, d, t, nn) = w2' at k2 gw hHeld ⊢
        try go_frame
        refine wpAnyH_done (by kernel_rfl) ?_ _
        have HK2 : Hid (OwnE w2' base g n c ((X ++ [(s', q', d', t', nn')]) ++ (M ++ (s, q, d, t, nn) :: Y))) := by have := k2; rw [HSW.out] at this; simpa [Hid] using this
        have HG2 : Hid (w.grownBy w2' (some g)) := grown_trans gd gw
        clear k2 gw k0 k1 gw1 gd hHeld
        go_wp2
        go_roundw
        case rel => exact ⟨i + 1, X ++ [(s', q', d', t', nn')], M, (s, q, d, t, nn) :: Y, by go_num, by have := HJE.out; simp; omega, by have := HXL.out; simp; omega, by have := HYL.out; simp; omega, HRV.out, HK2.out, HG2.out⟩
        case measure => have := HLE.out; simp [intOf]; omega
      · obtain ⟨lc0, lc1, lc2, lc3, lc4⟩ := k0.at5 HX.out
        have lcl := k0.lt.2
        go_simp
        clear lc0 lc1 lc2 lc3 lc4 lcl
        refine hK.out _ _ (by exact k0.lt.2) (fun hHeld => ?_)
        clear hK K
        try go_frame
        refine wpAnyH_ready (rs := [7]) (by kernel_rfl) (by simp) ?_
        refine consL rfl (fun K hK => ?_) AllReadyH.nil
        obtain ⟨lc0, lc1, lc2, lc3, lc4⟩ := k0.at5 HY.out
        have lcl := k0.lt.2
        go_simp
        clear lc0 lc1 lc2 lc3 lc4 lcl
        refine hK.out _ _ (by exact k0.lt.2) (fun hHeld => ?_)
        clear hK K
        try go_frame
        refine tkL 12 hHeld ?_; try go_frame
        refine wpAnyH_ready (rs := [13]) (by kernel_rfl) (by simp) ?_
        refine consL rfl (fun K hK => ?_) AllReadyH.nil
        obtain ⟨lc0, lc1, lc2, lc3, lc4⟩ := k0.at5 HX.out
        have lcl := k0.lt.2
        have lf := k0.owns.frozenAt
        have f0 := lf ((i) * 5)
        have f1 := lf ((i) * 5 + 1)
        have f2 := lf ((i) * 5 + 2)
        have f3 := lf ((i) * 5 + 3)
        have f4 := lf ((i) * 5 + 4)
        clear lf
        go_simp
        clear lc0 lc1 lc2 lc3 lc4 lcl
        clear f0 f1 f2 f3 f4
        have k1 := k0.setE (i := i) (e := (s', q', d', t', nn')) HI.out (k0.ents _ (List.mem_of_getElem? HY.out))
        refine hK.out _ (setE wd g (i) (s', q', d', t', nn')) (by exact k1.lt.2) (fun hHeld => ?_)
        clear hK K
        have gw1 := grown_setE wd g (i) (s', q', d', t', nn')
        generalize setE wd g (i) (s', q', d', t', nn') = w1' at k1 gw1 hHeld ⊢
        try go_frame
        refine tkL 14 hHeld ?_; try go_frame
        refine wpAnyH_ready (rs := [15]) (by kernel_rfl) (by simp) ?_
        refine consL rfl (fun K hK => ?_) AllReadyH.nil
        have HY1 : ((X ++ (s, q, d, t, nn) :: (M ++ (s', q', d', t', nn') :: Y)).set (i) (s', q', d', t', nn'))[j]? = some (s', q', d', t', nn') := by rw [List.getElem?_set_ne HIJ.out]; exact HY.out
        obtain ⟨lc0, lc1, lc2, lc3, lc4⟩ := k1.at5 HY1
        have lcl := k1.lt.2
        have lf := k1.owns.frozenAt
        have f0 := lf ((j) * 5)
        have f1 := lf ((j) * 5 + 1)
        have f2 := lf ((j) * 5 + 2)
        have f3 := lf ((j) * 5 + 3)
        have f4 := lf ((j) * 5 + 4)
        clear lf
        go_simp
        clear lc0 lc1 lc2 lc3 lc4 lcl
        clear f0 f1 f2 f3 f4
        have k2 := k1.setE (i := j) (e := (s, q, d, t, nn)) HJ.out (k0.ents _ (List.mem_of_getElem? HX.out))
        refine hK.out _ (setE w1' g (j) (s, q, d, t, nn)) (by exact k2.lt.2) (fun hHeld => ?_)
        clear hK K
        have gw : wd.grownBy (setE w1' g (j) (s, q, d, t, nn)) (some g) := grown_trans gw1 (grown_setE w1' g (j) (s, q, d, t, nn))
        generalize setE w1' g (j) (s, q, d, t, nn) = w2' at k2 gw hHeld ⊢
        try go_frame
        refine wpAnyH_done (by kernel_rfl) ?_ _
        have HK2 : Hid (OwnE w2' base g n c ((X ++ [(s', q', d', t', nn')]) ++ (M ++ (s, q, d, t, nn) :: Y))) := by have := k2; rw [HSW.out] at this; simpa [Hid] using this
        have HG2 : Hid (w.grownBy w2' (some g)) := grown_trans gd gw
        clear k2 gw k0 k1 gw1 gd hHeld
        go_wp2
        go_roundw
        case rel => exact ⟨i + 1, X ++ [(s', q', d', t', nn')], M, (s, q, d, t, nn) :: Y, by go_num, by have := HJE.out; simp; omega, by have := HXL.out; simp; omega, by have := HYL.out; simp; omega, HRV.out, HK2.out, HG2.out⟩
        case measure => have := HLE.out; simp [intOf]; omega
    · have HD : Hid (OwnE wr base g n c L.reverse) := by
        have hZ : Z.reverse = Z := by
          match Z, hz with
          | [], _ => rfl
          | [x], _ => rfl
          | _ :: _ :: _, h => exact absurd (by simp) h
        rw [hrv, hZ]; exact hOi
      have hni : ¬ (i : Int) < (n : Int) - 1 - (i : Int) := by omega
      clear hrv hOi hlen hz hxl hyl
      go_wp2
      go_end0
      exact ⟨rfl, HD.out, HGR.out⟩
end Go.Proofs.YtlmgojlffgkciaaGreat
