/-
  The program's heads: one more pushed, and the library's heap.Push, by walks of their Go text.
-/
import Derived.Maps.OwnIn
import Derived.RangeFuncCalls
import Derived.Test.YtlmgojlffgkciaaGreatGaXMgA
import Derived.Test.YtlmgojlffgkciaaGreatGaXMgU
namespace Go.Proofs.YtlmgojlffgkciaaGreat
open Go.RowKit
set_option maxRecDepth 100000
set_option maxHeartbeats 4000000
theorem Tryz.infoStr : (Tryz.prog.info? 136).map (fun i => (i.zero, i.size, i.bytes)) = some (some (.agg #[.slice none 0 0, .int .i64 0]), 2, 32) := by kernel_rfl
theorem assertStr (u : Value) (xT : TypeId) (W : World) : (Instr.typeAssert (.iface 136 u) xT 136 true).run Tryz.prog W = .ok (.tuple #[u, .bool true]) W := by kernel_rfl
theorem cell_two_new (w : World) (x y : Value) (t : TypeId) : ∀ j u, [x, y][j]? = some u → (w.alloc (.cells #[x, y] t)).cell? ((⟨w.heap.size, 0, none⟩ : Addr).add j) = some u := by
  intro j u hj
  rw [Go.WideShapes.add_plain, Nat.zero_add]
  match j, hj with
  | 0, hj => simp at hj; subst hj; simp
  | 1, hj => simp at hj; subst hj; simp
theorem headsPush (base BH : Nat) (v : Value) (X : List StrD) (H : List (List EntD × Nat)) (xb xo xn xc xk : Nat) (e : EntD) (l : List EntD) (w : World) (hn : H.length ≤ 1048576) (hs : base ≤ w.heap.size) (hV : HpV w base BH v X H) (hE : EntsAt w (some ⟨xb, xo, none⟩) xn xc (e :: l)) (hx : xb < base) :
    Calls Tryz.prog 260 #[.pointer (some ⟨BH, 0, none⟩), .iface 136 (.agg #[.slice (some ⟨xb, xo, none⟩) xn xc, .int .i64 xk])] w fun en w' => en = .returned (.tuple #[]) ∧ (∃ g c, HpV w' base BH (.slice (some ⟨g, 0, none⟩) (H.length + 1) c) (X ++ [(xb, xo, xn, xc, xk)]) (H ++ [(e :: l, xk)])) ∧ Below base w w' ∧ KeepsOthers w w' ∧ KeptB BH w w' := by
  obtain ⟨i0, hi, hz0, hz1, hz2⟩ := info_parts Tryz.infoStr
  obtain ⟨XS, hXS⟩ : ∃ XS, XS = w.heap.size := ⟨_, rfl⟩
  obtain ⟨W, hW⟩ : ∃ W, W = w.alloc (.cells #[.slice (some ⟨xb, xo, none⟩) xn xc, .int .i64 xk] 136) := ⟨_, rfl⟩
  have kW : Below w.heap.size w W := by rw [hW]; exact (Below.refl _ _).alloc (Nat.le_refl _) _
  have oW : KeepsOthers w W := by rw [hW]; exact KeepsOthers.alloc _ _
  have c0 : W.cell? ⟨XS, 0, none⟩ = some (.slice (some ⟨xb, xo, none⟩) xn xc) := by rw [hW, hXS]; simp
  have c1 : W.cell? ⟨XS, 1, none⟩ = some (.int .i64 xk) := by rw [hW, hXS]; simp
  have hVW := hV.below kW
  have HNX : Hid (some XS ≠ v.ownBlock) := fun e => by have := (hV.row.lt XS e.symm).2; omega
  have HXB : Hid (XS ≠ BH) := fun e => by have := hV.box.lt; omega
  have HE : Hid (EntsAt W (some ⟨xb, xo, none⟩) xn xc (e :: l)) := hE.keep kW
  have HX : Hid (xb < base) := hx
  have HBS : Hid (base ≤ w.heap.size) := hs
  have HBW : Hid (Below w.heap.size w W) := kW
  have HKW : Hid (KeepsOthers w W) := oW
  have HVW : Hid (HpV W base BH v X H) := hVW
  have hszW := kW.size
  have hta := assertStr (.agg #[.slice (some ⟨xb, xo, none⟩) xn xc, .int .i64 xk])
  go_enter Tryz.func260, Tryz.ntmps260
  go_wp2_with fail
  rw [← hW, ← hXS]
  clear hW hXS kW oW hV hVW hE hx hta
  have k0 : HpV W.drew base BH v X H := HVW.out.below (Below.refl _ W).drew
  have bd : Below W.heap.size W W.drew := (Below.refl _ W).drew
  have od : KeepsOthers W W.drew := KeepsOthers.drew W
  have cd0 := cell_later bd c0
  have cd1 := cell_later bd c1
  clear c0 c1
  refine wp_region_held_drew (S := (fun w' => w'.cell? ⟨XS, 0, none⟩ = some (.slice (some ⟨xb, xo, none⟩) xn xc) ∧ w'.cell? ⟨XS, 1, none⟩ = some (.int .i64 xk) ∧ XS < w'.heap.size)) (by kernel_rfl) (⟨cd0, cd1, World.block_lt_of_cell? _ _ cd0⟩) (fun hHeld => ?_)
  generalize W.drew = wd at k0 cd0 cd1 bd od hHeld ⊢
  refine tkL 0 hHeld ?_; try go_frame
  refine tkL 1 hHeld ?_; try go_frame
  refine tkL 2 hHeld ?_; try go_frame
  refine tkL 4 hHeld ?_; try go_frame
  refine wpAnyH_ready (rs := [3, 5]) (by kernel_rfl) (by simp) ?_
  refine consL rfl (fun K hK => ?_) (consL rfl (fun K hK => ?_) AllReadyH.nil)
  · have cB := (k0).box.cell
    go_simp
    clear cB
    refine hK.out _ _ (⟨cd0, cd1, World.block_lt_of_cell? _ _ cd0⟩) (fun hHeld => ?_)
    clear hK K
    try go_frame
    refine wpAnyH_ready (rs := [5]) (by kernel_rfl) (by simp) ?_
    refine consL rfl (fun K hK => ?_) AllReadyH.nil
    go_simp
    have kc : Below wd.heap.size wd (wd.alloc (.cells #[.slice (some ⟨xb, xo, none⟩) xn xc, .int .i64 xk] 136)) := (Below.refl _ _).alloc (Nat.le_refl _) _
    have kb := k0.below kc
    have cb0 := cell_later kc cd0
    have cb1 := cell_later kc cd1
    have bb := bd.trans (kc.mono bd.size)
    have ko := od.trans (KeepsOthers.alloc wd (.cells #[.slice (some ⟨xb, xo, none⟩) xn xc, .int .i64 xk] 136))
    have nw := cell_two_new wd (.slice (some ⟨xb, xo, none⟩) xn xc) (.int .i64 xk) 136
    generalize wd.heap.size = gb at nw ⊢
    generalize wd.alloc (.cells #[.slice (some ⟨xb, xo, none⟩) xn xc, .int .i64 xk] 136) = wb at kb cb0 cb1 bb ko nw ⊢
    refine hK.out _ _ (⟨cb0, cb1, World.block_lt_of_cell? _ _ cb0⟩) (fun hHeld => ?_)
    clear hK K
    try go_frame
    refine wpAnyH_ready (rs := [6]) (by kernel_rfl) (by simp) ?_
    refine consL rfl (fun K hK => ?_) AllReadyH.nil
    refine step_append_own rfl (.tmp 15) (.tmp 17) 129 rfl base 136 i0 _ 2 32 Tryz.underlying129 hi hz0 hz1 hz2 rfl (Nat.succ_pos 1) _ _ _ rfl kb.row ⟨gb, 0, none⟩ 1 1 (strCells (xb, xo, xn, xc, xk)) rfl rfl nw (by simp [strCells, Value.oneCell']) ?_ ?_ ?_ ?_
    · unfold maxLen; omega
    · omega
    · have := bb.size; omega
    intro v1 w1 ho1 hg1 hn1
    obtain ⟨g1, c1, rfl⟩ := ownsRow_succ ho1
    have hEb := HE.out.keep bb
    obtain ⟨b1, p2, p3, p4, p5⟩ := kb.push (x := (xb, xo, xn, xc, xk)) hEb HX.out ho1 hg1
    have neX : some XS ≠ v.ownBlock := HNX.out
    have hg1' : wb.grownBy w1 v.ownBlock := hg1
    have ce0 : w1.cell? ⟨XS, 0, none⟩ = _ := (World.cell?_of_block (a := ⟨XS, 0, none⟩) (hg1'.block XS (World.block_lt_of_cell? _ _ cb0) neX)).trans cb0
    have ce1 : w1.cell? ⟨XS, 1, none⟩ = _ := (World.cell?_of_block (a := ⟨XS, 1, none⟩) (hg1'.block XS (World.block_lt_of_cell? _ _ cb1) neX)).trans cb1
    refine hK.out _ _ (⟨ce0, ce1, World.block_lt_of_cell? _ _ ce0⟩) (fun hHeld => ?_)
    clear hK K
    try go_frame
    refine tkL 7 hHeld ?_; try go_frame
    refine wpAnyH_ready (rs := [8]) (by kernel_rfl) (by simp) ?_
    refine consL rfl (fun K hK => ?_) AllReadyH.nil
    have cB := b1.cell
    have fB := b1.frozen
    have lB := b1.lt
    go_simp
    clear cB fB lB
    refine hK.out _ _ (⟨(grown_cell (grownBy_setCell' w1 BH _) (x := ⟨XS, 0, none⟩) (World.block_lt_of_cell? _ _ ce0) HXB.out).trans ce0, (grown_cell (grownBy_setCell' w1 BH _) (x := ⟨XS, 1, none⟩) (World.block_lt_of_cell? _ _ ce1) HXB.out).trans ce1, World.block_lt_of_cell? _ _ ((grown_cell (grownBy_setCell' w1 BH _) (x := ⟨XS, 0, none⟩) (World.block_lt_of_cell? _ _ ce0) HXB.out).trans ce0)⟩) (fun hHeld => ?_)
    clear hK K
    try go_frame
    refine wpAnyH_done (by kernel_rfl) ?_ _
    clear hHeld
    go_wp2
    go_end0
    exact ⟨rfl, ⟨g1, c1, p2⟩, (HBW.out.trans (bb.mono HBW.out.size)).mono HBS.out |>.trans (p4 (Nat.le_trans HBS.out (Nat.le_trans HBW.out.size bb.size))), HKW.out.trans (ko.trans p3), (KeptB.below (HBW.out.trans (bb.mono HBW.out.size))).trans p5⟩
  · go_simp
    have kc : Below wd.heap.size wd (wd.alloc (.cells #[.slice (some ⟨xb, xo, none⟩) xn xc, .int .i64 xk] 136)) := (Below.refl _ _).alloc (Nat.le_refl _) _
    have kb := k0.below kc
    have cb0 := cell_later kc cd0
    have cb1 := cell_later kc cd1
    have bb := bd.trans (kc.mono bd.size)
    have ko := od.trans (KeepsOthers.alloc wd (.cells #[.slice (some ⟨xb, xo, none⟩) xn xc, .int .i64 xk] 136))
    have nw := cell_two_new wd (.slice (some ⟨xb, xo, none⟩) xn xc) (.int .i64 xk) 136
    generalize wd.heap.size = gb at nw ⊢
    generalize wd.alloc (.cells #[.slice (some ⟨xb, xo, none⟩) xn xc, .int .i64 xk] 136) = wb at kb cb0 cb1 bb ko nw ⊢
    refine hK.out _ _ (⟨cb0, cb1, World.block_lt_of_cell? _ _ cb0⟩) (fun hHeld => ?_)
    clear hK K
    try go_frame
    refine wpAnyH_ready (rs := [3]) (by kernel_rfl) (by simp) ?_
    refine consL rfl (fun K hK => ?_) AllReadyH.nil
    have cB := (kb).box.cell
    go_simp
    clear cB
    refine hK.out _ _ (⟨cb0, cb1, World.block_lt_of_cell? _ _ cb0⟩) (fun hHeld => ?_)
    clear hK K
    try go_frame
    refine wpAnyH_ready (rs := [6]) (by kernel_rfl) (by simp) ?_
    refine consL rfl (fun K hK => ?_) AllReadyH.nil
    refine step_append_own rfl (.tmp 15) (.tmp 17) 129 rfl base 136 i0 _ 2 32 Tryz.underlying129 hi hz0 hz1 hz2 rfl (Nat.succ_pos 1) _ _ _ rfl kb.row ⟨gb, 0, none⟩ 1 1 (strCells (xb, xo, xn, xc, xk)) rfl rfl nw (by simp [strCells, Value.oneCell']) ?_ ?_ ?_ ?_
    · unfold maxLen; omega
    · omega
    · have := bb.size; omega
    intro v1 w1 ho1 hg1 hn1
    obtain ⟨g1, c1, rfl⟩ := ownsRow_succ ho1
    have hEb := HE.out.keep bb
    obtain ⟨b1, p2, p3, p4, p5⟩ := kb.push (x := (xb, xo, xn, xc, xk)) hEb HX.out ho1 hg1
    have neX : some XS ≠ v.ownBlock := HNX.out
    have hg1' : wb.grownBy w1 v.ownBlock := hg1
    have ce0 : w1.cell? ⟨XS, 0, none⟩ = _ := (World.cell?_of_block (a := ⟨XS, 0, none⟩) (hg1'.block XS (World.block_lt_of_cell? _ _ cb0) neX)).trans cb0
    have ce1 : w1.cell? ⟨XS, 1, none⟩ = _ := (World.cell?_of_block (a := ⟨XS, 1, none⟩) (hg1'.block XS (World.block_lt_of_cell? _ _ cb1) neX)).trans cb1
    refine hK.out _ _ (⟨ce0, ce1, World.block_lt_of_cell? _ _ ce0⟩) (fun hHeld => ?_)
    clear hK K
    try go_frame
    refine tkL 7 hHeld ?_; try go_frame
    refine wpAnyH_ready (rs := [8]) (by kernel_rfl) (by simp) ?_
    refine consL rfl (fun K hK => ?_) AllReadyH.nil
    have cB := b1.cell
    have fB := b1.frozen
    have lB := b1.lt
    go_simp
    clear cB fB lB
    refine hK.out _ _ (⟨(grown_cell (grownBy_setCell' w1 BH _) (x := ⟨XS, 0, none⟩) (World.block_lt_of_cell? _ _ ce0) HXB.out).trans ce0, (grown_cell (grownBy_setCell' w1 BH _) (x := ⟨XS, 1, none⟩) (World.block_lt_of_cell? _ _ ce1) HXB.out).trans ce1, World.block_lt_of_cell? _ _ ((grown_cell (grownBy_setCell' w1 BH _) (x := ⟨XS, 0, none⟩) (World.block_lt_of_cell? _ _ ce0) HXB.out).trans ce0)⟩) (fun hHeld => ?_)
    clear hK K
    try go_frame
    refine wpAnyH_done (by kernel_rfl) ?_ _
    clear hHeld
    go_wp2
    go_end0
    exact ⟨rfl, ⟨g1, c1, p2⟩, (HBW.out.trans (bb.mono HBW.out.size)).mono HBS.out |>.trans (p4 (Nat.le_trans HBS.out (Nat.le_trans HBW.out.size bb.size))), HKW.out.trans (ko.trans p3), (KeptB.below (HBW.out.trans (bb.mono HBW.out.size))).trans p5⟩
theorem heapPush (base BH : Nat) (v : Value) (X : List StrD) (H : List (List EntD × Nat)) (xb xo xn xc xk : Nat) (e : EntD) (l : List EntD) (w : World) (hn : H.length < 1048576) (hs : base ≤ w.heap.size) (hV : HpV w base BH v X H) (hE : EntsAt w (some ⟨xb, xo, none⟩) xn xc (e :: l)) (hx : xb < base) (hH : Mg.HeapTo (Mg.lessS lessE) H.length H) :
    Calls Tryz.prog 108 #[.iface 134 (.pointer (some ⟨BH, 0, none⟩)), .iface 136 (.agg #[.slice (some ⟨xb, xo, none⟩) xn xc, .int .i64 xk])] w fun en w' => en = .returned (.tuple #[]) ∧ (∃ v' X' H', HpV w' base BH v' X' H' ∧ H'.Perm (H ++ [(e :: l, xk)]) ∧ Mg.HeapTo (Mg.lessS lessE) H'.length H' ∧ (∃ g c, v' = .slice (some ⟨g, 0, none⟩) H'.length c)) ∧ Below base w w' ∧ KeepsOthers w w' ∧ KeptB BH w w' := by
  have hm := hmPush BH w
  have CP := headsPush base BH v X H xb xo xn xc xk e l w (by omega) hs hV hE hx
  have HH : Hid (Mg.HeapTo (Mg.lessS lessE) H.length H) := hH
  have HS : Hid (base ≤ w.heap.size) := hs
  clear hH hV hE hs hx
  go_enter Tryz.func108, Tryz.ntmps108
  go_wp2_with fail
  refine CP.mono ?_
  rintro en w1 ⟨rfl, ⟨g, c, hV1⟩, hb1, hk1, hq1⟩
  have HQ1 : Hid (KeptB BH w w1) := hq1
  have HB1 : Hid (Below base w w1) := hb1
  have HK1 : Hid (KeepsOthers w w1) := hk1
  have HV1 : Hid (HpV w1 base BH (.slice (some ⟨g, 0, none⟩) (H.length + 1) c) (X ++ [(xb, xo, xn, xc, xk)]) (H ++ [(e :: l, xk)])) := hV1
  have hlen : (H ++ [(e :: l, xk)]).length = H.length + 1 := by simp
  have hS1 := hV1.hp hlen
  have hm2 := hmLen BH g (H.length + 1) c w1 hS1.box
  have CN := headsLen (some ⟨g, 0, none⟩) (H.length + 1) c w1
  have hU : Mg.UpI (Mg.lessS lessE) (H.length + 1) (H ++ [(e :: l, xk)]) H.length := Mg.up_start HH.out rfl _
  have CU := heapUp base BH g (H.length + 1) c H.length _ _ w1 (by omega) (by omega) hS1 hU hV1.live
  have wk : IntKind.i64.wrap (((H.length + 1 : Nat) : Int) - 1) = (H.length : Int) := by rw [IntKind.wrap_i64]; omega
  have hgc : ∃ cc, w1.heap[g]? = some (.cells cc 136 (0, 0)) := hV1.cells rfl
  have HGC : Hid (∃ cc, w1.heap[g]? = some (.cells cc 136 (0, 0))) := hgc
  have HGB : Hid (base ≤ g) := (hS1.own.lt).1
  have HNE : Hid (BH ≠ g) := hS1.ne
  clear hb1 hk1 hq1 hV1 hS1 hU CP hm hlen HH hgc
  generalize H.length = n at *
  go_wp2_with fail
  refine CN.mono ?_
  rintro en w2 ⟨rfl, rfl⟩
  go_wp2_with fail
  refine CU.mono ?_
  rintro en w3 ⟨rfl, ⟨X', H', hS3, hP3, hX3, hT3⟩, hg3⟩
  have hbx := HV1.out.box.kept hg3 (fun e' => HNE.out (Option.some.inj e'))
  have HV3 : Hid (HpV w3 base BH (.slice (some ⟨g, 0, none⟩) (n + 1) c) X' H') := HV1.out.of hS3 hX3 (fun s hs => HV1.out.live s (hP3.mem_iff.1 hs)) hbx
  have HL3 : Hid (H'.length = n + 1) := hS3.len
  have HB3 : Hid (Below base w w3) := HB1.out.trans ((Below.refl base w2).grown hg3 (Nat.le_trans HS.out HB1.out.size) (fun k ek => by cases ek; exact HGB.out))
  have HK3 : Hid (KeepsOthers w w3) := HK1.out.trans (KeepsOthers.of_grownBy hg3 (fun j o ej ho => by cases ej; obtain ⟨cc, hc⟩ := HGC.out; rw [hc] at ho; cases ho; rfl))
  have HQ3 : Hid (KeptB BH w w3) := HQ1.out.trans (KeptB.grown hg3 HGC.out)
  have HP3 : Hid (H'.Perm (H ++ [(e :: l, xk)])) := hP3
  have HT3 : Hid (Mg.HeapTo (Mg.lessS lessE) (n + 1) H') := hT3
  clear hS3 hP3 hX3 hT3 hg3 hbx CU CN HB1 HK1 HQ1 hm2
  go_wp2
  go_end0
  exact ⟨rfl, ⟨_, X', H', HV3.out, HP3.out, by rw [HL3.out]; exact HT3.out, g, c, by rw [HL3.out]⟩, HB3.out, HK3.out, HQ3.out⟩
end Go.Proofs.YtlmgojlffgkciaaGreat
