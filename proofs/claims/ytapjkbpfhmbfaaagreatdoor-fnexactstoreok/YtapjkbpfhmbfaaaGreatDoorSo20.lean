/-
  The library's way up in a heap, at the program's heads, by a walk of its Go text.
  The program's heads: one more pushed, and the library's heap.Push, by walks of their Go text.
  The library's way down in a heap, at the program's heads, by a walk of its Go text.
-/
import Derived.Test.YtapjkbpfhmbfaaaGreatDoorSo19
import Derived.Maps.OwnIn
import Derived.RangeFuncCalls
namespace Go.Proofs.YtapjkbpfhmbfaaaGreatDoor
open Go.RowKit
set_option maxRecDepth 100000
set_option maxHeartbeats 4000000
theorem heapUp (base BH g n c j0 : Nat) (X0 : List StrD) (H0 : List (List EntD × Nat)) (w : World) (hn : n ≤ 1048576) (hj : j0 < n) (hS : HpSt w base BH g n c X0 H0) (hU : Mg.UpI (Mg.lessS lessE) n H0 j0) (hLv : ∀ h ∈ H0, h.1 ≠ []) :
    Calls Tryz.prog 248 #[.iface 222 (.pointer (some ⟨BH, 0, none⟩)), .int .i64 j0] w fun e w' => e = .returned (.tuple #[]) ∧ (∃ X H, HpSt w' base BH g n c X H ∧ H.Perm H0 ∧ X.Perm X0 ∧ Mg.HeapTo (Mg.lessS lessE) n H) ∧ w.grownBy w' (some g) := by
  have HS0 : Hid (HpSt w base BH g n c X0 H0) := hS
  have HU0 : Hid (Mg.UpI (Mg.lessS lessE) n H0 j0) := hU
  have HLV : Hid (∀ h ∈ H0, h.1 ≠ []) := hLv
  clear hS hU hLv
  go_enter Tryz.func248, Tryz.ntmps248
  go_wp2
  go_loopw [1] (fun jv wr => ∃ (j : Nat) (X : List StrD) (H : List (List EntD × Nat)), jv = .int .i64 j ∧ j < n ∧ HpSt wr base BH g n c X H ∧ H.Perm H0 ∧ X.Perm X0 ∧ Mg.UpI (Mg.lessS lessE) n H j ∧ w.grownBy wr (some g)) (fun jv _ => (intOf jv).toNat)
  case atStart => exact ⟨j0, X0, H0, rfl, hj, HS0.out, List.Perm.refl _, List.Perm.refl _, HU0.out, ⟨rfl, rfl, rfl, Nat.le_refl _, fun _ _ _ => rfl⟩⟩
  case round =>
    clear HS0 HU0 hj
    obtain ⟨j, X, H, rfl, hj, hS, hP, hQ, hU, hG⟩ := hrel
    have HS : Hid (HpSt wr base BH g n c X H) := hS
    have HP : Hid (H.Perm H0) := hP
    have HQ : Hid (X.Perm X0) := hQ
    have HU : Hid (Mg.UpI (Mg.lessS lessE) n H j) := hU
    have HG : Hid (w.grownBy wr (some g)) := hG
    clear hS hP hQ hU hG
    by_cases h0 : j = 0
    · subst h0
      have w1 : IntKind.i64.wrap ((0 : Int) - 1) = -1 := by decide
      have w2 : (-1 : Int).tdiv 2 = 0 := by decide
      have w3 : IntKind.i64.wrap ((-1 : Int).tdiv 2) = 0 := by decide
      go_wp2
      go_end0
      exact ⟨rfl, ⟨X, H, HS.out, HP.out, HQ.out, Mg.up_done HU.out (fun h => by omega)⟩, HG.out⟩
    · obtain ⟨i, hi⟩ : ∃ i, i = (j - 1) / 2 := ⟨_, rfl⟩
      have w1 : IntKind.i64.wrap ((j : Int) - 1) = (j : Int) - 1 := by rw [IntKind.wrap_i64]; omega
      have w2 : ((j : Int) - 1).tdiv 2 = (i : Int) := by rw [Int.tdiv_eq_ediv_of_nonneg (by omega)]; omega
      have w3 : IntKind.i64.wrap (i : Int) = (i : Int) := by rw [IntKind.wrap_i64]; omega
      have hneI : ¬ (i : Int) = (j : Int) := by omega
      have hne : ((i : Int) == (j : Int)) = false := by simp; omega
      have hij : i < j := by omega
      have hLen := HS.out.len
      obtain ⟨u, hu⟩ : ∃ u, H[i]? = some u := ⟨_, List.getElem?_eq_getElem (by omega)⟩
      obtain ⟨v, hv⟩ : ∃ v, H[j]? = some v := ⟨_, List.getElem?_eq_getElem (by omega)⟩
      have hXL := HS.out.own.len
      obtain ⟨x, hx⟩ : ∃ x, X[i]? = some x := ⟨_, List.getElem?_eq_getElem (by omega)⟩
      obtain ⟨y, hy⟩ : ∃ y, X[j]? = some y := ⟨_, List.getElem?_eq_getElem (by omega)⟩
      have HI : Hid (i = (j - 1) / 2) := hi
      have HUu : Hid (H[i]? = some u) := hu
      have HVv : Hid (H[j]? = some v) := hv
      have HXx : Hid (X[i]? = some x) := hx
      have HYy : Hid (X[j]? = some y) := hy
      have hm := hmLess BH g n c wr HS.out.box
      have CL := HS.out.less hv hu (HLV.out _ (HP.out.mem_iff.1 (List.mem_of_getElem? hv))) (HLV.out _ (HP.out.mem_iff.1 (List.mem_of_getElem? hu)))
      clear hi hu hv hx hy hLen hXL
      go_wp2_with fail
      refine CL.mono ?_
      rintro e w1' ⟨rfl, hb1⟩
      have HS1 : Hid (HpSt w1' base BH g n c X H) := HS.out.below hb1
      have HG1 : Hid (w.grownBy w1' (some g)) := HG.out.trans ⟨hb1.os, hb1.tape, hb1.output, hb1.size, fun k hk _ => hb1.block k hk⟩
      clear HS HG hb1 hm CL
      cases hl : Mg.lessS lessE v u with
      | false =>
        go_wp2
        go_end0
        exact ⟨rfl, ⟨X, H, HS1.out, HP.out, HQ.out, Mg.up_done HU.out (fun _ _ p q hp hq => by rw [← HI.out, HUu.out] at hp; rw [HVv.out] at hq; cases hp; cases hq; exact hl)⟩, HG1.out⟩
      | true =>
        have hm := hmSwap BH g n c w1' HS1.out.box
        have CW := headsSwap base g n c i j X x y w1' HS1.out.own HXx.out HYy.out
        go_wp2_with fail
        refine CW.mono ?_
        rintro e w2' ⟨rfl, hO2, hg2⟩
        have HS2 : Hid (HpSt w2' base BH g n c (Mg.sw X i j x y) (Mg.sw H i j u v)) := HS1.out.swap HXx.out HYy.out HUu.out HVv.out hg2 hO2
        have HG2 : Hid (w.grownBy w2' (some g)) := HG1.out.trans hg2
        clear HS1 HG1 hO2 hg2 hm CW
        go_wp2
        go_roundw
        case rel =>
          refine ⟨i, _, _, rfl, by omega, HS2.out, (Mg.sw_perm HUu.out HVv.out).trans HP.out, (Mg.sw_perm HXx.out HYy.out).trans HQ.out, ?_, HG2.out⟩
          have := Mg.up_step (Mg.lessS_ord less_wk) HU.out (by omega) hj (by rw [← HI.out]; exact HUu.out) HVv.out hl
          rw [← HI.out] at this
          exact this
        case measure => simp [intOf] <;> omega
end Go.Proofs.YtapjkbpfhmbfaaaGreatDoor

namespace Go.Proofs.YtapjkbpfhmbfaaaGreatDoor
open Go.RowKit
set_option maxRecDepth 100000
set_option maxHeartbeats 4000000
theorem Tryz.infoStr : (Tryz.prog.info? 224).map (fun i => (i.zero, i.size, i.bytes)) = some (some (.agg #[.slice none 0 0, .int .i64 0]), 2, 32) := by kernel_rfl
theorem assertStr (u : Value) (xT : TypeId) (W : World) : (Instr.typeAssert (.iface 224 u) xT 224 true).run Tryz.prog W = .ok (.tuple #[u, .bool true]) W := by kernel_rfl
theorem cell_two_new (w : World) (x y : Value) (t : TypeId) : ∀ j u, [x, y][j]? = some u → (w.alloc (.cells #[x, y] t)).cell? ((⟨w.heap.size, 0, none⟩ : Addr).add j) = some u := by
  intro j u hj
  rw [Go.WideShapes.add_plain, Nat.zero_add]
  match j, hj with
  | 0, hj => simp at hj; subst hj; simp
  | 1, hj => simp at hj; subst hj; simp
theorem headsPush (base BH : Nat) (v : Value) (X : List StrD) (H : List (List EntD × Nat)) (xb xo xn xc xk : Nat) (e : EntD) (l : List EntD) (w : World) (hn : H.length ≤ 1048576) (hs : base ≤ w.heap.size) (hV : HpV w base BH v X H) (hE : EntsAt w (some ⟨xb, xo, none⟩) xn xc (e :: l)) (hx : xb < base) :
    Calls Tryz.prog 357 #[.pointer (some ⟨BH, 0, none⟩), .iface 224 (.agg #[.slice (some ⟨xb, xo, none⟩) xn xc, .int .i64 xk])] w fun en w' => en = .returned (.tuple #[]) ∧ (∃ g c, HpV w' base BH (.slice (some ⟨g, 0, none⟩) (H.length + 1) c) (X ++ [(xb, xo, xn, xc, xk)]) (H ++ [(e :: l, xk)])) ∧ Below base w w' ∧ KeepsOthers w w' ∧ KeptB BH w w' := by
  obtain ⟨i0, hi, hz0, hz1, hz2⟩ := info_parts Tryz.infoStr
  obtain ⟨XS, hXS⟩ : ∃ XS, XS = w.heap.size := ⟨_, rfl⟩
  obtain ⟨W, hW⟩ : ∃ W, W = w.alloc (.cells #[.slice (some ⟨xb, xo, none⟩) xn xc, .int .i64 xk] 224) := ⟨_, rfl⟩
  have kW : Below w.heap.size w W := by rw [hW]; exact (Below.refl _ _).alloc (Nat.le_refl _) _
  have oW : KeepsOthers w W := by rw [hW]; exact KeepsOthers.alloc _ _
  have c0 : W.cell? ⟨XS, 0, none⟩ = some (.slice (some ⟨xb, xo, none⟩) xn xc) := by rw [hW, hXS]; simp
  have c1 : W.cell? ⟨XS, 1, none⟩ = some (.int .i64 xk) := by rw [hW, hXS]; simp
  have hVW := hV.below kW
  have HNX : Hid (some XS ≠ v.ownBlock) := fun e => by have := (hV.row.lt XS e.symm).2; omega
  have HXB : Hid (XS ≠ BH) := fun e => by have := hV.box.lt; omega
  have HE : Hid (EntsAt W (some ⟨xb, xo, none⟩) xn xc (e :: l)) := hE.keep kW
  have HX : Hid (xb < base) := hx
  have HBS : Hid (base ≤ w.heap.size) := hs
  have HBW : Hid (Below w.heap.size w W) := kW
  have HKW : Hid (KeepsOthers w W) := oW
  have HVW : Hid (HpV W base BH v X H) := hVW
  have hszW := kW.size
  have hta := assertStr (.agg #[.slice (some ⟨xb, xo, none⟩) xn xc, .int .i64 xk])
  go_enter Tryz.func357, Tryz.ntmps357
  go_wp2_with fail
  rw [← hW, ← hXS]
  clear hW hXS kW oW hV hVW hE hx hta
  have k0 : HpV W.drew base BH v X H := HVW.out.below (Below.refl _ W).drew
  have bd : Below W.heap.size W W.drew := (Below.refl _ W).drew
  have od : KeepsOthers W W.drew := KeepsOthers.drew W
  have cd0 := cell_later bd c0
  have cd1 := cell_later bd c1
  clear c0 c1
  refine wp_region_held_drew (S := (fun w' => w'.cell? ⟨XS, 0, none⟩ = some (.slice (some ⟨xb, xo, none⟩) xn xc) ∧ w'.cell? ⟨XS, 1, none⟩ = some (.int .i64 xk) ∧ XS < w'.heap.size)) (by kernel_rfl) (⟨cd0, cd1, World.block_lt_of_cell? _ _ cd0⟩) (fun hHeld => ?_)
  generalize W.drew = wd at k0 cd0 cd1 bd od hHeld ⊢
  refine tkL 0 hHeld ?_; try go_frame
  refine tkL 1 hHeld ?_; try go_frame
  refine tkL 2 hHeld ?_; try go_frame
  refine tkL 4 hHeld ?_; try go_frame
  refine wpAnyH_ready (rs := [3, 5]) (by kernel_rfl) (by simp) ?_
  refine consL rfl (fun K hK => ?_) (consL rfl (fun K hK => ?_) AllReadyH.nil)
  · have cB := (k0).box.cell
    go_simp
    clear cB
    refine hK.out _ _ (⟨cd0, cd1, World.block_lt_of_cell? _ _ cd0⟩) (fun hHeld => ?_)
    clear hK K
    try go_frame
    refine wpAnyH_ready (rs := [5]) (by kernel_rfl) (by simp) ?_
    refine consL rfl (fun K hK => ?_) AllReadyH.nil
    go_simp
    have kc : Below wd.heap.size wd (wd.alloc (.cells #[.slice (some ⟨xb, xo, none⟩) xn xc, .int .i64 xk] 224)) := (Below.refl _ _).alloc (Nat.le_refl _) _
    have kb := k0.below kc
    have cb0 := cell_later kc cd0
    have cb1 := cell_later kc cd1
    have bb := bd.trans (kc.mono bd.size)
    have ko := od.trans (KeepsOthers.alloc wd (.cells #[.slice (some ⟨xb, xo, none⟩) xn xc, .int .i64 xk] 224))
    have nw := cell_two_new wd (.slice (some ⟨xb, xo, none⟩) xn xc) (.int .i64 xk) 224
    generalize wd.heap.size = gb at nw ⊢
    generalize wd.alloc (.cells #[.slice (some ⟨xb, xo, none⟩) xn xc, .int .i64 xk] 224) = wb at kb cb0 cb1 bb ko nw ⊢
    refine hK.out _ _ (⟨cb0, cb1, World.block_lt_of_cell? _ _ cb0⟩) (fun hHeld => ?_)
    clear hK K
    try go_frame
    refine wpAnyH_ready (rs := [6]) (by kernel_rfl) (by simp) ?_
    refine consL rfl (fun K hK => ?_) AllReadyH.nil
    refine step_append_own rfl (.tmp 15) (.tmp 17) 217 rfl base 224 i0 _ 2 32 Tryz.underlying217 hi hz0 hz1 hz2 rfl (Nat.succ_pos 1) _ _ _ rfl kb.row ⟨gb, 0, none⟩ 1 1 (strCells (xb, xo, xn, xc, xk)) rfl rfl nw (by simp [strCells, Value.oneCell']) ?_ ?_ ?_ ?_
    · unfold maxLen; omega
    · omega
    · have := bb.size; omega
    intro v1 w1 ho1 hg1 hn1
    obtain ⟨g1, c1, rfl⟩ := ownsRow_succ ho1
    have hEb := HE.out.keep bb
    obtain ⟨b1, p2, p3, p4, p5⟩ := kb.push (x := (xb, xo, xn, xc, xk)) hEb HX.out ho1 hg1
    have neX : some XS ≠ v.ownBlock := HNX.out
    have hg1' : wb.grownBy w1 v.ownBlock := hg1
    have ce0 : w1.cell? ⟨XS, 0, none⟩ = _ := (World.cell?_of_block (a := ⟨XS, 0, none⟩) (hg1'.block XS (World.block_lt_of_cell? _ _ cb0) neX)).trans cb0
    have ce1 : w1.cell? ⟨XS, 1, none⟩ = _ := (World.cell?_of_block (a := ⟨XS, 1, none⟩) (hg1'.block XS (World.block_lt_of_cell? _ _ cb1) neX)).trans cb1
    refine hK.out _ _ (⟨ce0, ce1, World.block_lt_of_cell? _ _ ce0⟩) (fun hHeld => ?_)
    clear hK K
    try go_frame
    refine tkL 7 hHeld ?_; try go_frame
    refine wpAnyH_ready (rs := [8]) (by kernel_rfl) (by simp) ?_
    refine consL rfl (fun K hK => ?_) AllReadyH.nil
    have cB := b1.cell
    have fB := b1.frozen
    have lB := b1.lt
    go_simp
    clear cB fB lB
    refine hK.out _ _ (⟨(grown_cell (grownBy_setCell' w1 BH _) (x := ⟨XS, 0, none⟩) (World.block_lt_of_cell? _ _ ce0) HXB.out).trans ce0, (grown_cell (grownBy_setCell' w1 BH _) (x := ⟨XS, 1, none⟩) (World.block_lt_of_cell? _ _ ce1) HXB.out).trans ce1, World.block_lt_of_cell? _ _ ((grown_cell (grownBy_setCell' w1 BH _) (x := ⟨XS, 0, none⟩) (World.block_lt_of_cell? _ _ ce0) HXB.out).trans ce0)⟩) (fun hHeld => ?_)
    clear hK K
    try go_frame
    refine wpAnyH_done (by kernel_rfl) ?_ _
    clear hHeld
    go_wp2
    go_end0
    exact ⟨rfl, ⟨g1, c1, p2⟩, (HBW.out.trans (bb.mono HBW.out.size)).mono HBS.out |>.trans (p4 (Nat.le_trans HBS.out (Nat.le_trans HBW.out.size bb.size))), HKW.out.trans (ko.trans p3), (KeptB.below (HBW.out.trans (bb.mono HBW.out.size))).trans p5⟩
  · go_simp
    have kc : Below wd.heap.size wd (wd.alloc (.cells #[.slice (some ⟨xb, xo, none⟩) xn xc, .int .i64 xk] 224)) := (Below.refl _ _).alloc (Nat.le_refl _) _
    have kb := k0.below kc
    have cb0 := cell_later kc cd0
    have cb1 := cell_later kc cd1
    have bb := bd.trans (kc.mono bd.size)
    have ko := od.trans (KeepsOthers.alloc wd (.cells #[.slice (some ⟨xb, xo, none⟩) xn xc, .int .i64 xk] 224))
    have nw := cell_two_new wd (.slice (some ⟨xb, xo, none⟩) xn xc) (.int .i64 xk) 224
    generalize wd.heap.size = gb at nw ⊢
    generalize wd.alloc (.cells #[.slice (some ⟨xb, xo, none⟩) xn xc, .int .i64 xk] 224) = wb at kb cb0 cb1 bb ko nw ⊢
    refine hK.out _ _ (⟨cb0, cb1, World.block_lt_of_cell? _ _ cb0⟩) (fun hHeld => ?_)
    clear hK K
    try go_frame
    refine wpAnyH_ready (rs := [3]) (by kernel_rfl) (by simp) ?_
    refine consL rfl (fun K hK => ?_) AllReadyH.nil
    have cB := (kb).box.cell
    go_simp
    clear cB
    refine hK.out _ _ (⟨cb0, cb1, World.block_lt_of_cell? _ _ cb0⟩) (fun hHeld => ?_)
    clear hK K
    try go_frame
    refine wpAnyH_ready (rs := [6]) (by kernel_rfl) (by simp) ?_
    refine consL rfl (fun K hK => ?_) AllReadyH.nil
    refine step_append_own rfl (.tmp 15) (.tmp 17) 217 rfl base 224 i0 _ 2 32 Tryz.underlying217 hi hz0 hz1 hz2 rfl (Nat.succ_pos 1) _ _ _ rfl kb.row ⟨gb, 0, none⟩ 1 1 (strCells (xb, xo, xn, xc, xk)) rfl rfl nw (by simp [strCells, Value.oneCell']) ?_ ?_ ?_ ?_
    · unfold maxLen; omega
    · omega
    · have := bb.size; omega
    intro v1 w1 ho1 hg1 hn1
    obtain ⟨g1, c1, rfl⟩ := ownsRow_succ ho1
    have hEb := HE.out.keep bb
    obtain ⟨b1, p2, p3, p4, p5⟩ := kb.push (x := (xb, xo, xn, xc, xk)) hEb HX.out ho1 hg1
    have neX : some XS ≠ v.ownBlock := HNX.out
    have hg1' : wb.grownBy w1 v.ownBlock := hg1
    have ce0 : w1.cell? ⟨XS, 0, none⟩ = _ := (World.cell?_of_block (a := ⟨XS, 0, none⟩) (hg1'.block XS (World.block_lt_of_cell? _ _ cb0) neX)).trans cb0
    have ce1 : w1.cell? ⟨XS, 1, none⟩ = _ := (World.cell?_of_block (a := ⟨XS, 1, none⟩) (hg1'.block XS (World.block_lt_of_cell? _ _ cb1) neX)).trans cb1
    refine hK.out _ _ (⟨ce0, ce1, World.block_lt_of_cell? _ _ ce0⟩) (fun hHeld => ?_)
    clear hK K
    try go_frame
    refine tkL 7 hHeld ?_; try go_frame
    refine wpAnyH_ready (rs := [8]) (by kernel_rfl) (by simp) ?_
    refine consL rfl (fun K hK => ?_) AllReadyH.nil
    have cB := b1.cell
    have fB := b1.frozen
    have lB := b1.lt
    go_simp
    clear cB fB lB
    refine hK.out _ _ (⟨(grown_cell (grownBy_setCell' w1 BH _) (x := ⟨XS, 0, none⟩) (World.block_lt_of_cell? _ _ ce0) HXB.out).trans ce0, (grown_cell (grownBy_setCell' w1 BH _) (x := ⟨XS, 1, none⟩) (World.block_lt_of_cell? _ _ ce1) HXB.out).trans ce1, World.block_lt_of_cell? _ _ ((grown_cell (grownBy_setCell' w1 BH _) (x := ⟨XS, 0, none⟩) (World.block_lt_of_cell? _ _ ce0) HXB.out).trans ce0)⟩) (fun hHeld => ?_)
    clear hK K
    try go_frame
    refine wpAnyH_done (by kernel_rfl) ?_ _
    clear hHeld
    go_wp2
    go_end0
    exact ⟨rfl, ⟨g1, c1, p2⟩, (HBW.out.trans (bb.mono HBW.out.size)).mono HBS.out |>.trans (p4 (Nat.le_trans HBS.out (Nat.le_trans HBW.out.size bb.size))), HKW.out.trans (ko.trans p3), (KeptB.below (HBW.out.trans (bb.mono HBW.out.size))).trans p5⟩
theorem heapPush (base BH : Nat) (v : Value) (X : List StrD) (H : List (List EntD × Nat)) (xb xo xn xc xk : Nat) (e : EntD) (l : List EntD) (w : World) (hn : H.length < 1048576) (hs : base ≤ w.heap.size) (hV : HpV w base BH v X H) (hE : EntsAt w (some ⟨xb, xo, none⟩) xn xc (e :: l)) (hx : xb < base) (hH : Mg.HeapTo (Mg.lessS lessE) H.length H) :
    Calls Tryz.prog 203 #[.iface 222 (.pointer (some ⟨BH, 0, none⟩)), .iface 224 (.agg #[.slice (some ⟨xb, xo, none⟩) xn xc, .int .i64 xk])] w fun en w' => en = .returned (.tuple #[]) ∧ (∃ v' X' H', HpV w' base BH v' X' H' ∧ H'.Perm (H ++ [(e :: l, xk)]) ∧ Mg.HeapTo (Mg.lessS lessE) H'.length H' ∧ (∃ g c, v' = .slice (some ⟨g, 0, none⟩) H'.length c)) ∧ Below base w w' ∧ KeepsOthers w w' ∧ KeptB BH w w' := by
  have hm := hmPush BH w
  have CP := headsPush base BH v X H xb xo xn xc xk e l w (by omega) hs hV hE hx
  have HH : Hid (Mg.HeapTo (Mg.lessS lessE) H.length H) := hH
  have HS : Hid (base ≤ w.heap.size) := hs
  clear hH hV hE hs hx
  go_enter Tryz.func203, Tryz.ntmps203
  go_wp2_with fail
  refine CP.mono ?_
  rintro en w1 ⟨rfl, ⟨g, c, hV1⟩, hb1, hk1, hq1⟩
  have HQ1 : Hid (KeptB BH w w1) := hq1
  have HB1 : Hid (Below base w w1) := hb1
  have HK1 : Hid (KeepsOthers w w1) := hk1
  have HV1 : Hid (HpV w1 base BH (.slice (some ⟨g, 0, none⟩) (H.length + 1) c) (X ++ [(xb, xo, xn, xc, xk)]) (H ++ [(e :: l, xk)])) := hV1
  have hlen : (H ++ [(e :: l, xk)]).length = H.length + 1 := by simp
  have hS1 := hV1.hp hlen
  have hm2 := hmLen BH g (H.length + 1) c w1 hS1.box
  have CN := headsLen (some ⟨g, 0, none⟩) (H.length + 1) c w1
  have hU : Mg.UpI (Mg.lessS lessE) (H.length + 1) (H ++ [(e :: l, xk)]) H.length := Mg.up_start HH.out rfl _
  have CU := heapUp base BH g (H.length + 1) c H.length _ _ w1 (by omega) (by omega) hS1 hU hV1.live
  have wk : IntKind.i64.wrap (((H.length + 1 : Nat) : Int) - 1) = (H.length : Int) := by rw [IntKind.wrap_i64]; omega
  have hgc : ∃ cc, w1.heap[g]? = some (.cells cc 224 (0, 0)) := hV1.cells rfl
  have HGC : Hid (∃ cc, w1.heap[g]? = some (.cells cc 224 (0, 0))) := hgc
  have HGB : Hid (base ≤ g) := (hS1.own.lt).1
  have HNE : Hid (BH ≠ g) := hS1.ne
  clear hb1 hk1 hq1 hV1 hS1 hU CP hm hlen HH hgc
  generalize H.length = n at *
  go_wp2_with fail
  refine CN.mono ?_
  rintro en w2 ⟨rfl, rfl⟩
  go_wp2_with fail
  refine CU.mono ?_
  rintro en w3 ⟨rfl, ⟨X', H', hS3, hP3, hX3, hT3⟩, hg3⟩
  have hbx := HV1.out.box.kept hg3 (fun e' => HNE.out (Option.some.inj e'))
  have HV3 : Hid (HpV w3 base BH (.slice (some ⟨g, 0, none⟩) (n + 1) c) X' H') := HV1.out.of hS3 hX3 (fun s hs => HV1.out.live s (hP3.mem_iff.1 hs)) hbx
  have HL3 : Hid (H'.length = n + 1) := hS3.len
  have HB3 : Hid (Below base w w3) := HB1.out.trans ((Below.refl base w2).grown hg3 (Nat.le_trans HS.out HB1.out.size) (fun k ek => by cases ek; exact HGB.out))
  have HK3 : Hid (KeepsOthers w w3) := HK1.out.trans (KeepsOthers.of_grownBy hg3 (fun j o ej ho => by cases ej; obtain ⟨cc, hc⟩ := HGC.out; rw [hc] at ho; cases ho; rfl))
  have HQ3 : Hid (KeptB BH w w3) := HQ1.out.trans (KeptB.grown hg3 HGC.out)
  have HP3 : Hid (H'.Perm (H ++ [(e :: l, xk)])) := hP3
  have HT3 : Hid (Mg.HeapTo (Mg.lessS lessE) (n + 1) H') := hT3
  clear hS3 hP3 hX3 hT3 hg3 hbx CU CN HB1 HK1 HQ1 hm2
  go_wp2
  go_end0
  exact ⟨rfl, ⟨_, X', H', HV3.out, HP3.out, by rw [HL3.out]; exact HT3.out, g, c, by rw [HL3.out]⟩, HB3.out, HK3.out, HQ3.out⟩
end Go.Proofs.YtapjkbpfhmbfaaaGreatDoor

namespace Go.Proofs.YtapjkbpfhmbfaaaGreatDoor
open Go.RowKit
set_option maxRecDepth 100000
set_option maxHeartbeats 8000000
theorem heapDown (base BH g N n c i0 : Nat) (X0 : List StrD) (H0 : List (List EntD × Nat)) (w : World) (hn : N ≤ 1048576) (hnN : n ≤ N) (hi0 : i0 < N) (hS : HpSt w base BH g N c X0 H0) (hD : Mg.DownI (Mg.lessS lessE) n H0 i0) (hLv : LiveTo n H0) :
    Calls Tryz.prog 249 #[.iface 222 (.pointer (some ⟨BH, 0, none⟩)), .int .i64 i0, .int .i64 n] w fun e w' => (∃ b, e = .returned (.bool b)) ∧ (∃ X H, HpSt w' base BH g N c X H ∧ H.Perm H0 ∧ X.Perm X0 ∧ (∀ k, n ≤ k → X[k]? = X0[k]? ∧ H[k]? = H0[k]?) ∧ Mg.HeapTo (Mg.lessS lessE) n H) ∧ w.grownBy w' (some g) := by
  have HS0 : Hid (HpSt w base BH g N c X0 H0) := hS
  have HD0 : Hid (Mg.DownI (Mg.lessS lessE) n H0 i0) := hD
  have HL0 : Hid (LiveTo n H0) := hLv
  clear hS hD hLv
  go_enter Tryz.func249, Tryz.ntmps249
  go_wp2
  go_loopw [7] (fun iv wr => ∃ (i : Nat) (X : List StrD) (H : List (List EntD × Nat)), iv = .int .i64 i ∧ i < N ∧ HpSt wr base BH g N c X H ∧ H.Perm H0 ∧ X.Perm X0 ∧ (∀ k, n ≤ k → X[k]? = X0[k]? ∧ H[k]? = H0[k]?) ∧ (Mg.DownI (Mg.lessS lessE) n H i ∧ LiveTo n H) ∧ w.grownBy wr (some g)) (fun iv _ => N - (intOf iv).toNat)
  case atStart => exact ⟨i0, X0, H0, rfl, hi0, HS0.out, List.Perm.refl _, List.Perm.refl _, fun k _ => ⟨rfl, rfl⟩, ⟨HD0.out, HL0.out⟩, ⟨rfl, rfl, rfl, Nat.le_refl _, fun _ _ _ => rfl⟩⟩
  case round =>
    clear HS0 HD0 HL0
    obtain ⟨i, X, H, rfl, hi, hS, hP, hQ, hK, ⟨hD, hLv⟩, hG⟩ := hrel
    have HLV : Hid (LiveTo n H) := hLv
    have HS : Hid (HpSt wr base BH g N c X H) := hS
    have HP : Hid (H.Perm H0) := hP
    have HQ : Hid (X.Perm X0) := hQ
    have HK : Hid (∀ k, n ≤ k → X[k]? = X0[k]? ∧ H[k]? = H0[k]?) := hK
    have HD : Hid (Mg.DownI (Mg.lessS lessE) n H i) := hD
    have HG : Hid (w.grownBy wr (some g)) := hG
    have hLen := hS.len
    have hXL := hS.own.len
    clear hS hP hQ hD hG hK hLv
    obtain ⟨j1, hj1⟩ : ∃ j1, j1 = 2 * i + 1 := ⟨_, rfl⟩
    have w1 : IntKind.i64.wrap (2 * (i : Int)) = 2 * (i : Int) := by rw [IntKind.wrap_i64]; omega
    have w2 : IntKind.i64.wrap (2 * (i : Int) + 1) = (j1 : Int) := by rw [IntKind.wrap_i64]; omega
    have HJ1 : Hid (j1 = 2 * i + 1) := hj1
    by_cases hend : n ≤ j1
    · have hendI : (n : Int) ≤ (j1 : Int) := by omega
      clear hj1
      go_wp2
      go_ret
      exact ⟨⟨_, rfl⟩, ⟨X, H, HS.out, HP.out, HQ.out, HK.out, Mg.down_done HD.out (fun d _ hd hp => by have := HJ1.out; omega)⟩, HG.out⟩
    · have hendI : ¬ (n : Int) ≤ (j1 : Int) := by omega
      have hpos : ¬ (j1 : Int) < 0 := by omega
      obtain ⟨u, hu⟩ : ∃ u, H[i]? = some u := ⟨_, List.getElem?_eq_getElem (by omega)⟩
      obtain ⟨x, hx⟩ : ∃ x, X[i]? = some x := ⟨_, List.getElem?_eq_getElem (by omega)⟩
      obtain ⟨v1, hv1⟩ : ∃ v, H[j1]? = some v := ⟨_, List.getElem?_eq_getElem (by omega)⟩
      obtain ⟨y1, hy1⟩ : ∃ y, X[j1]? = some y := ⟨_, List.getElem?_eq_getElem (by omega)⟩
      obtain ⟨j2, hj2⟩ : ∃ j2, j2 = j1 + 1 := ⟨_, rfl⟩
      have w3 : IntKind.i64.wrap ((j1 : Int) + 1) = (j2 : Int) := by rw [IntKind.wrap_i64]; omega
      have HJ2 : Hid (j2 = j1 + 1) := hj2
      have HUu : Hid (H[i]? = some u) := hu
      have HXx : Hid (X[i]? = some x) := hx
      have HV1 : Hid (H[j1]? = some v1) := hv1
      have HY1 : Hid (X[j1]? = some y1) := hy1
      by_cases h2 : j2 < n
      · have h2I : (j2 : Int) < (n : Int) := by omega
        obtain ⟨v2, hv2⟩ : ∃ v, H[j2]? = some v := ⟨_, List.getElem?_eq_getElem (by omega)⟩
        obtain ⟨y2, hy2⟩ : ∃ y, X[j2]? = some y := ⟨_, List.getElem?_eq_getElem (by omega)⟩
        have HV2 : Hid (H[j2]? = some v2) := hv2
        have HY2 : Hid (X[j2]? = some y2) := hy2
        have hm := hmLess BH g N c wr HS.out.box
        have CL := HS.out.less hv2 hv1 (HLV.out _ _ h2 hv2) (HLV.out _ _ (by omega) hv1)
        clear hu hx hv1 hy1 hv2 hy2 hj1 hj2
        go_wp2_with fail
        refine CL.mono ?_
        rintro e w4 ⟨rfl, hb4⟩
        have HS4 : Hid (HpSt w4 base BH g N c X H) := HS.out.below hb4
        have HG4 : Hid (w.grownBy w4 (some g)) := HG.out.trans ⟨hb4.os, hb4.tape, hb4.output, hb4.size, fun k hk _ => hb4.block k hk⟩
        clear HS HG hb4 hm CL
        cases hl2 : Mg.lessS lessE v2 v1 with
        | true =>
          obtain ⟨v, hvv⟩ : ∃ v, v = v2 := ⟨_, rfl⟩
          obtain ⟨y, hyy⟩ : ∃ y, y = y2 := ⟨_, rfl⟩
          subst hvv
          subst hyy
          have HV : Hid (H[j2]? = some v) := HV2.out
          have HYy : Hid (X[j2]? = some y) := HY2.out
          have HMIN : Hid (∀ d, 0 < d → d < n → (d - 1) / 2 = i → ∀ z, H[d]? = some z → Mg.lessS lessE z v = false) := fun d d0 hd hp z hz => by
            have e1 := HJ1.out
            have e2 := HJ2.out
            by_cases hdj : d = j2
            · subst hdj
              rw [HV2.out] at hz
              cases hz
              exact Mg.lessS_irr less_wk _
            · have : d = j1 := by omega
              subst this
              rw [HV1.out] at hz
              cases hz
              exact (Mg.lessS_ord less_wk).asym _ _ hl2
          clear HV2 HY2
          have hm := hmLess BH g N c w4 HS4.out.box
          have hin : i < n := by have := HJ1.out; omega
          have hjn : j2 < n := by have := HJ2.out; omega
          have CL := HS4.out.less HV.out HUu.out (HLV.out _ _ hjn HV.out) (HLV.out _ _ hin HUu.out)
          go_wp2_with fail
          refine CL.mono ?_
          rintro e w5 ⟨rfl, hb5⟩
          have HS5 : Hid (HpSt w5 base BH g N c X H) := HS4.out.below hb5
          have HG5 : Hid (w.grownBy w5 (some g)) := HG4.out.trans ⟨hb5.os, hb5.tape, hb5.output, hb5.size, fun k hk _ => hb5.block k hk⟩
          clear HS4 HG4 hb5 hm CL
          cases hl : Mg.lessS lessE v u with
          | false =>
            go_wp2
            go_ret
            exact ⟨⟨_, rfl⟩, ⟨X, H, HS5.out, HP.out, HQ.out, HK.out, Mg.down_done HD.out (fun d d0 hd hp p q hp' hq => by rw [HUu.out] at hp'; cases hp'; exact (Mg.lessS_ord less_wk).tran _ _ _ (HMIN.out d d0 hd hp q hq) hl)⟩, HG5.out⟩
          | true =>
            have hm := hmSwap BH g N c w5 HS5.out.box
            have CW := headsSwap base g N c i j2 X x y w5 HS5.out.own HXx.out HYy.out
            go_wp2_with fail
            refine CW.mono ?_
            rintro e w6 ⟨rfl, hO6, hg6⟩
            have HS6 : Hid (HpSt w6 base BH g N c (Mg.sw X i j2 x y) (Mg.sw H i j2 u v)) := HS5.out.swap HXx.out HYy.out HUu.out HV.out hg6 hO6
            have HG6 : Hid (w.grownBy w6 (some g)) := HG5.out.trans hg6
            clear HS5 HG5 hO6 hg6 hm CW
            go_wp2
            go_roundw
            case rel => exact ⟨j2, _, _, rfl, by omega, HS6.out, (Mg.sw_perm HUu.out HV.out).trans HP.out, (Mg.sw_perm HXx.out HYy.out).trans HQ.out, fun k hk => by rw [Mg.sw_get HXx.out HYy.out, Mg.sw_get HUu.out HV.out, if_neg (by omega), if_neg (by have := HJ1.out; omega), if_neg (by omega), if_neg (by have := HJ1.out; omega)]; exact HK.out k hk, ⟨Mg.down_step (Mg.lessS_ord less_wk) HD.out (by have := HJ1.out; have := HJ2.out; omega) (by have := HJ1.out; have := HJ2.out; omega) (by omega) HUu.out HV.out hl HMIN.out, HLV.out.swap HUu.out HV.out hin hjn⟩, HG6.out⟩
            case measure => have := HJ1.out; have := HJ2.out; simp [intOf] <;> omega
        | false =>
          obtain ⟨v, hvv⟩ : ∃ v, v = v1 := ⟨_, rfl⟩
          obtain ⟨y, hyy⟩ : ∃ y, y = y1 := ⟨_, rfl⟩
          subst hvv
          subst hyy
          have HV : Hid (H[j1]? = some v) := HV1.out
          have HYy : Hid (X[j1]? = some y) := HY1.out
          have HMIN : Hid (∀ d, 0 < d → d < n → (d - 1) / 2 = i → ∀ z, H[d]? = some z → Mg.lessS lessE z v = false) := fun d d0 hd hp z hz => by
            have e1 := HJ1.out
            have e2 := HJ2.out
            by_cases hdj : d = j2
            · subst hdj
              rw [HV2.out] at hz
              cases hz
              exact hl2
            · have : d = j1 := by omega
              subst this
              rw [HV1.out] at hz
              cases hz
              exact Mg.lessS_irr less_wk _
          clear HV1 HY1
          have hm := hmLess BH g N c w4 HS4.out.box
          have hin : i < n := by have := HJ1.out; omega
          have hjn : j1 < n := by have := HJ2.out; omega
          have CL := HS4.out.less HV.out HUu.out (HLV.out _ _ hjn HV.out) (HLV.out _ _ hin HUu.out)
          go_wp2_with fail
          refine CL.mono ?_
          rintro e w5 ⟨rfl, hb5⟩
          have HS5 : Hid (HpSt w5 base BH g N c X H) := HS4.out.below hb5
          have HG5 : Hid (w.grownBy w5 (some g)) := HG4.out.trans ⟨hb5.os, hb5.tape, hb5.output, hb5.size, fun k hk _ => hb5.block k hk⟩
          clear HS4 HG4 hb5 hm CL
          cases hl : Mg.lessS lessE v u with
          | false =>
            go_wp2
            go_ret
            exact ⟨⟨_, rfl⟩, ⟨X, H, HS5.out, HP.out, HQ.out, HK.out, Mg.down_done HD.out (fun d d0 hd hp p q hp' hq => by rw [HUu.out] at hp'; cases hp'; exact (Mg.lessS_ord less_wk).tran _ _ _ (HMIN.out d d0 hd hp q hq) hl)⟩, HG5.out⟩
          | true =>
            have hm := hmSwap BH g N c w5 HS5.out.box
            have CW := headsSwap base g N c i j1 X x y w5 HS5.out.own HXx.out HYy.out
            go_wp2_with fail
            refine CW.mono ?_
            rintro e w6 ⟨rfl, hO6, hg6⟩
            have HS6 : Hid (HpSt w6 base BH g N c (Mg.sw X i j1 x y) (Mg.sw H i j1 u v)) := HS5.out.swap HXx.out HYy.out HUu.out HV.out hg6 hO6
            have HG6 : Hid (w.grownBy w6 (some g)) := HG5.out.trans hg6
            clear HS5 HG5 hO6 hg6 hm CW
            go_wp2
            go_roundw
            case rel => exact ⟨j1, _, _, rfl, by omega, HS6.out, (Mg.sw_perm HUu.out HV.out).trans HP.out, (Mg.sw_perm HXx.out HYy.out).trans HQ.out, fun k hk => by rw [Mg.sw_get HXx.out HYy.out, Mg.sw_get HUu.out HV.out, if_neg (by omega), if_neg (by have := HJ1.out; omega), if_neg (by omega), if_neg (by have := HJ1.out; omega)]; exact HK.out k hk, ⟨Mg.down_step (Mg.lessS_ord less_wk) HD.out (by have := HJ1.out; have := HJ2.out; omega) (by have := HJ1.out; have := HJ2.out; omega) (by omega) HUu.out HV.out hl HMIN.out, HLV.out.swap HUu.out HV.out hin hjn⟩, HG6.out⟩
            case measure => have := HJ1.out; have := HJ2.out; simp [intOf] <;> omega
      · have h2I : ¬ (j2 : Int) < (n : Int) := by omega
        obtain ⟨v, hvv⟩ : ∃ v, v = v1 := ⟨_, rfl⟩
        obtain ⟨y, hyy⟩ : ∃ y, y = y1 := ⟨_, rfl⟩
        subst hvv
        subst hyy
        have HV : Hid (H[j1]? = some v) := HV1.out
        have HYy : Hid (X[j1]? = some y) := HY1.out
        have HMIN : Hid (∀ d, 0 < d → d < n → (d - 1) / 2 = i → ∀ z, H[d]? = some z → Mg.lessS lessE z v = false) := fun d d0 hd hp z hz => by
          have e1 := HJ1.out
          have e2 := HJ2.out
          have : d = j1 := by omega
          subst this
          rw [HV1.out] at hz
          cases hz
          exact Mg.lessS_irr less_wk _
        clear HV1 HY1 hu hx hv1 hy1 hj1 hj2
        have hm := hmLess BH g N c wr HS.out.box
        have hin : i < n := by have := HJ1.out; omega
        have hjn : j1 < n := by have := HJ2.out; omega
        have CL := HS.out.less HV.out HUu.out (HLV.out _ _ hjn HV.out) (HLV.out _ _ hin HUu.out)
        go_wp2_with fail
        refine CL.mono ?_
        rintro e w5 ⟨rfl, hb5⟩
        have HS5 : Hid (HpSt w5 base BH g N c X H) := HS.out.below hb5
        have HG5 : Hid (w.grownBy w5 (some g)) := HG.out.trans ⟨hb5.os, hb5.tape, hb5.output, hb5.size, fun k hk _ => hb5.block k hk⟩
        clear HS HG hb5 hm CL
        cases hl : Mg.lessS lessE v u with
        | false =>
          go_wp2
          go_ret
          exact ⟨⟨_, rfl⟩, ⟨X, H, HS5.out, HP.out, HQ.out, HK.out, Mg.down_done HD.out (fun d d0 hd hp p q hp' hq => by rw [HUu.out] at hp'; cases hp'; exact (Mg.lessS_ord less_wk).tran _ _ _ (HMIN.out d d0 hd hp q hq) hl)⟩, HG5.out⟩
        | true =>
          have hm := hmSwap BH g N c w5 HS5.out.box
          have CW := headsSwap base g N c i j1 X x y w5 HS5.out.own HXx.out HYy.out
          go_wp2_with fail
          refine CW.mono ?_
          rintro e w6 ⟨rfl, hO6, hg6⟩
          have HS6 : Hid (HpSt w6 base BH g N c (Mg.sw X i j1 x y) (Mg.sw H i j1 u v)) := HS5.out.swap HXx.out HYy.out HUu.out HV.out hg6 hO6
          have HG6 : Hid (w.grownBy w6 (some g)) := HG5.out.trans hg6
          clear HS5 HG5 hO6 hg6 hm CW
          go_wp2
          go_roundw
          case rel => exact ⟨j1, _, _, rfl, by omega, HS6.out, (Mg.sw_perm HUu.out HV.out).trans HP.out, (Mg.sw_perm HXx.out HYy.out).trans HQ.out, fun k hk => by rw [Mg.sw_get HXx.out HYy.out, Mg.sw_get HUu.out HV.out, if_neg (by omega), if_neg (by have := HJ1.out; omega), if_neg (by omega), if_neg (by have := HJ1.out; omega)]; exact HK.out k hk, ⟨Mg.down_step (Mg.lessS_ord less_wk) HD.out (by have := HJ1.out; have := HJ2.out; omega) (by have := HJ1.out; have := HJ2.out; omega) (by omega) HUu.out HV.out hl HMIN.out, HLV.out.swap HUu.out HV.out hin hjn⟩, HG6.out⟩
          case measure => have := HJ1.out; have := HJ2.out; simp [intOf] <;> omega
end Go.Proofs.YtapjkbpfhmbfaaaGreatDoor
