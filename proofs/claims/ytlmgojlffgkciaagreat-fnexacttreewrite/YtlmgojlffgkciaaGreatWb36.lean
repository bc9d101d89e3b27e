/-
  A heap of stretches that may still be nothing: its state, and what pushing one more leaves. No function is walked here.
  The library's way up in a heap, at the program's heads, by a walk of its Go text.
  The program's heads: one more pushed, and the library's heap.Push, by walks of their Go text.
-/
import Derived.Test.YtlmgojlffgkciaaGreatWb35
import Derived.Maps.OwnIn
import Derived.RangeFuncCalls
namespace Go.Proofs.YtlmgojlffgkciaaGreat
open Go.RowKit

/-- The variable, the row behind it, if any, and what is left of each stretch; all entries lie below base. -/
structure HpV (w : World) (base BH : Nat) (v : Value) (X : List StrD) (H : List (List EntD × Nat)) : Prop where
  box : Boxed w BH 129 v
  row : w.ownsRow base 136 2 v H.length (flatH X)
  xl : X.length = H.length
  rest : ∀ (k : Nat) x h, X[k]? = some x → H[k]? = some h → ∃ e l, h = (e :: l, x.2.2.2.2) ∧ EntsAt w (some ⟨x.1, x.2.1, none⟩) x.2.2.1 x.2.2.2.1 (e :: l)
  low : ∀ x ∈ X, x.1 < base
  hB : base ≤ BH
theorem HpV.empty {w : World} {base BH : Nat} (h : Boxed w BH 129 (.slice none 0 0)) (hB : base ≤ BH) : HpV w base BH (.slice none 0 0) [] [] :=
  ⟨h, ⟨rfl, .inl ⟨rfl, rfl⟩⟩, rfl, (fun k x h hx => by simp at hx), (fun x hx => by cases hx), hB⟩
theorem HpV.grown {w w' : World} {base BH : Nat} {v : Value} {X : List StrD} {H : List (List EntD × Nat)} {row : Option Nat} (h : HpV w base BH v X H) (hg : w.grownBy w' row) (h1 : some BH ≠ row) (h2 : ∀ g, v.ownBlock = some g → some g ≠ row) (h3 : ∀ r, row = some r → base ≤ r) : HpV w' base BH v X H := by
  refine ⟨h.box.kept hg h1, h.row.kept hg ?_, h.xl, fun k x s hx hs => ?_, h.low, h.hB⟩
  · cases hv : v.ownBlock with
    | none => exact .inl rfl
    | some g => exact .inr (h2 g hv)
  · obtain ⟨e, l, r1, r2⟩ := h.rest k x s hx hs
    refine ⟨e, l, r1, r2.grownB hg (fun y ey _ => ?_)⟩
    cases ey
    intro e'
    have h4 := h3 _ e'.symm
    have h5 := h.low x (List.mem_of_getElem? hx)
    exact absurd h4 (by simp only; omega)
theorem HpV.below {w w' : World} {base BH : Nat} {v : Value} {X : List StrD} {H : List (List EntD × Nat)} (h : HpV w base BH v X H) (hb : Below w.heap.size w w') : HpV w' base BH v X H :=
  h.grown (row := none) (grown_none hb) (by simp) (fun g _ => by simp) (fun r e => by cases e)
theorem HpV.cells {w : World} {base BH : Nat} {v : Value} {X : List StrD} {H : List (List EntD × Nat)} (h : HpV w base BH v X H) {g : Nat} (hg : v.ownBlock = some g) : ∃ cc, w.heap[g]? = some (.cells cc 136 (0, 0)) := by
  rcases h.row.2 with ⟨hv, _⟩ | ⟨g', cap, cur, hv, _, hc, _⟩
  · rw [hv] at hg; cases hg
  · rw [hv] at hg
    cases hg
    exact ⟨_, hc⟩
theorem HpV.own {w w' : World} {base BH B : Nat} {v : Value} {X : List StrD} {H : List (List EntD × Nat)} {row : Option Nat} (h : HpV w base BH v X H) (hB : base ≤ B) (hg : w.grownBy w' row) (hr : ∀ r, row = some r → B ≤ r ∧ ∃ o : Obj, w.heap[r]? = some o ∧ o.isCells = false) : HpV w' base BH v X H := by
  refine h.grown hg (fun e => ?_) (fun g hg' e => ?_) (fun r e => by have := (hr r e).1; omega)
  · obtain ⟨_, o, ho, hc⟩ := hr _ e.symm
    rw [show w.heap[BH]? = _ from h.box] at ho
    cases ho
    cases hc
  · obtain ⟨_, o, ho, hc⟩ := hr _ e.symm
    obtain ⟨cc, hcc⟩ := h.cells hg'
    rw [hcc] at ho
    cases ho
    cases hc
/-- A row behind the variable. -/
theorem HpV.hp {w : World} {base BH g n c : Nat} {X : List StrD} {H : List (List EntD × Nat)} (h : HpV w base BH (.slice (some ⟨g, 0, none⟩) n c) X H) (hn : H.length = n) : HpSt w base BH g n c X H := by
  have hxl := h.xl
  have hO : OwnH w base g n c X := ⟨by have := h.row; rw [hn] at this; exact this, by omega⟩
  refine ⟨h.box.cell, hO, hn, fun k x s hx hs => ?_, ?_⟩
  · obtain ⟨e, l, r1, r2⟩ := h.rest k x s hx hs
    have h1 := h.low x (List.mem_of_getElem? hx)
    have h2 := hO.lt
    have h3 := h.hB
    exact ⟨e :: l, r1, r2, by omega, by omega, by omega⟩
  · intro e
    exact (h.box.not_row (by decide) h.row) (by rw [e]; rfl)
theorem HpV.live {w : World} {base BH : Nat} {v : Value} {X : List StrD} {H : List (List EntD × Nat)} (h : HpV w base BH v X H) : ∀ s ∈ H, s.1 ≠ [] := fun s hs => by
  obtain ⟨k, hk⟩ := List.getElem?_of_mem hs
  have hl := (List.getElem?_eq_some_iff.1 hk).1
  obtain ⟨e, l, rfl, _⟩ := h.rest k _ s (List.getElem?_eq_getElem (by rw [h.xl]; exact hl)) hk
  exact fun e => by cases e
theorem HpV.of {w w' : World} {base BH g n c : Nat} {v : Value} {X X' : List StrD} {H H' : List (List EntD × Nat)} (h : HpV w base BH v X H) (hS : HpSt w' base BH g n c X' H') (hx : X'.Perm X) (hv : ∀ s ∈ H', s.1 ≠ []) (hb : Boxed w' BH 129 (.slice (some ⟨g, 0, none⟩) n c)) : HpV w' base BH (.slice (some ⟨g, 0, none⟩) n c) X' H' := by
  refine ⟨hb, by rw [hS.len]; exact hS.own.owns, by rw [hS.len]; exact hS.own.len, fun k x s hx' hs => ?_, fun x hx' => h.low x (hx.mem_iff.1 hx'), h.hB⟩
  obtain ⟨l0, rfl, r2, _⟩ := hS.rest k x s hx' hs
  obtain ⟨e, l, rfl⟩ := List.exists_cons_of_ne_nil (hv _ (List.mem_of_getElem? hs))
  exact ⟨e, l, rfl, r2⟩
/-- What lies in boxes elsewhere is kept. -/
def KeptB (BH : Nat) (w w' : World) : Prop := ∀ (B : Nat) (T : TypeId) (u : Value), Boxed w B T u → T ≠ 136 → B ≠ BH → Boxed w' B T u
theorem KeptB.trans {BH : Nat} {a b c : World} (h : KeptB BH a b) (k : KeptB BH b c) : KeptB BH a c := fun B T u hb hT hB => k B T u (h B T u hb hT hB) hT hB
theorem KeptB.below {BH : Nat} {a b : World} (h : Below a.heap.size a b) : KeptB BH a b := fun B T u hb _ _ => hb.kept (grown_none h) (by simp)
theorem KeptB.grown {BH g : Nat} {a b : World} (h : a.grownBy b (some g)) (hg : ∃ cc, a.heap[g]? = some (.cells cc 136 (0, 0))) : KeptB BH a b := fun B T u hb hT _ => hb.kept h (fun e => by
  have e' := Option.some.inj e
  subst e'
  obtain ⟨cc, hc⟩ := hg
  have hc' := (show a.heap[B]? = _ from hb).symm.trans hc
  cases hc'
  exact hT rfl)
theorem flatH_snoc (X : List StrD) (x : StrD) : flatH (X ++ [x]) = flatH X ++ strCells x := by rw [flatH_append]; simp [flatH]
/-- One more is put behind the others. -/
theorem HpV.push {W w1 : World} {base BH g' c' : Nat} {v : Value} {X : List StrD} {H : List (List EntD × Nat)} {x : StrD} {e : EntD} {l : List EntD} (h : HpV W base BH v X H) (hE : EntsAt W (some ⟨x.1, x.2.1, none⟩) x.2.2.1 x.2.2.2.1 (e :: l)) (hx : x.1 < base)
    (hown : w1.ownsRow base 136 2 (.slice (some ⟨g', 0, none⟩) (H.length + 1) c') (H.length + 1) (flatH X ++ strCells x)) (hgrow : W.grownBy w1 v.ownBlock) :
    Boxed w1 BH 129 v ∧ HpV (w1.setCell ⟨BH, 0, none⟩ (.slice (some ⟨g', 0, none⟩) (H.length + 1) c')) base BH (.slice (some ⟨g', 0, none⟩) (H.length + 1) c') (X ++ [x]) (H ++ [(e :: l, x.2.2.2.2)]) ∧ KeepsOthers W (w1.setCell ⟨BH, 0, none⟩ (.slice (some ⟨g', 0, none⟩) (H.length + 1) c')) ∧ (base ≤ W.heap.size → Below base W (w1.setCell ⟨BH, 0, none⟩ (.slice (some ⟨g', 0, none⟩) (H.length + 1) c'))) ∧ KeptB BH W (w1.setCell ⟨BH, 0, none⟩ (.slice (some ⟨g', 0, none⟩) (H.length + 1) c')) := by
  have b1 := h.box.kept hgrow (h.box.not_row (by decide) h.row)
  have hgs := grownBy_setCell' w1 BH (.slice (some ⟨g', 0, none⟩) (H.length + 1) c')
  have hlow : ∀ (y : StrD) (e0 : EntD) (l0 : List EntD), y.1 < base → EntsAt W (some ⟨y.1, y.2.1, none⟩) y.2.2.1 y.2.2.2.1 (e0 :: l0) → EntsAt (w1.setCell ⟨BH, 0, none⟩ (.slice (some ⟨g', 0, none⟩) (H.length + 1) c')) (some ⟨y.1, y.2.1, none⟩) y.2.2.1 y.2.2.2.1 (e0 :: l0) := by
    intro y e0 l0 hy hy2
    refine (hy2.grownB hgrow (fun z ez _ e' => ?_)).grownB hgs (fun z ez _ e' => ?_)
    · cases ez
      have := (h.row.lt _ e'.symm).1
      simp only at this
      omega
    · cases ez
      have h7 := Option.some.inj e'
      have h8 := h.hB
      simp only at h7
      omega
  refine ⟨b1, ⟨b1.set _, ?_, ?_, ?_, ?_, h.hB⟩, ?_, fun hs => ?_, fun B T u hb hT hB => Boxed.kept (hb.kept hgrow (hb.not_row hT h.row)) hgs (fun e => hB (Option.some.inj e))⟩
  · rw [List.length_append, flatH_snoc]
    exact hown.kept hgs (.inr (b1.not_row (by decide) hown).symm)
  · rw [List.length_append, List.length_append, h.xl]; rfl
  · intro k y s hy hs
    by_cases hk : k < X.length
    · rw [List.getElem?_append_left hk] at hy
      rw [List.getElem?_append_left (by rw [← h.xl]; exact hk)] at hs
      obtain ⟨e0, l0, r1, r2⟩ := h.rest k y s hy hs
      exact ⟨e0, l0, r1, hlow y e0 l0 (h.low y (List.mem_of_getElem? hy)) r2⟩
    · rw [List.getElem?_append_right (by omega)] at hy
      rw [List.getElem?_append_right (by rw [← h.xl]; omega), ← h.xl] at hs
      have hk0 : k - X.length = 0 := by
        have := (List.getElem?_eq_some_iff.1 hy).1
        simp at this
        omega
      rw [hk0] at hy hs
      simp at hy hs
      subst hy
      subst hs
      exact ⟨e, l, rfl, hlow _ e l hx hE⟩
  · intro y hy
    rcases List.mem_append.1 hy with h1 | h1
    · exact h.low y h1
    · rw [List.mem_singleton] at h1
      subst h1
      exact hx
  · refine (KeepsOthers.of_grownBy hgrow fun j o ej hj => ?_).trans (KeepsOthers.setCell _ _ _)
    obtain ⟨cc, hcc⟩ := h.cells ej
    rw [hcc] at hj
    cases hj
    rfl
  · exact ((Below.refl base W).grown hgrow hs (fun k ek => (h.row.lt k ek).1)).setCell (p := ⟨BH, 0, none⟩) h.hB _
end Go.Proofs.YtlmgojlffgkciaaGreat

namespace Go.Proofs.YtlmgojlffgkciaaGreat
open Go.RowKit

set_option maxRecDepth 100000 in
set_option maxHeartbeats 4000000 in
theorem heapUp (base BH g n c j0 : Nat) (X0 : List StrD) (H0 : List (List EntD × Nat)) (w : World) (hn : n ≤ 1048576) (hj : j0 < n) (hS : HpSt w base BH g n c X0 H0) (hU : Mg.UpI (Mg.lessS lessE) n H0 j0) (hLv : ∀ h ∈ H0, h.1 ≠ []) :
    Calls Tryz.prog 161 #[.iface 134 (.pointer (some ⟨BH, 0, none⟩)), .int .i64 j0] w fun e w' => e = .returned (.tuple #[]) ∧ (∃ X H, HpSt w' base BH g n c X H ∧ H.Perm H0 ∧ X.Perm X0 ∧ Mg.HeapTo (Mg.lessS lessE) n H) ∧ w.grownBy w' (some g) := by
  have HS0 : Hid (HpSt w base BH g n c X0 H0) := hS
  have HU0 : Hid (Mg.UpI (Mg.lessS lessE) n H0 j0) := hU
  have HLV : Hid (∀ h ∈ H0, h.1 ≠ []) := hLv
  clear hS hU hLv
  go_enter Tryz.func161, Tryz.ntmps161
  go_wp2
  go_loopw [1] (fun jv wr => ∃ (j : Nat) (X : List StrD) (H : List (List EntD × Nat)), jv = .int .i64 j ∧ j < n ∧ HpSt wr base BH g n c X H ∧ H.Perm H0 ∧ X.Perm X0 ∧ Mg.UpI (Mg.lessS lessE) n H j ∧ w.grownBy wr (some g)) (fun jv _ => (intOf jv).toNat)
  case atStart => exact ⟨j0, X0, H0, rfl, hj, HS0.out, List.Perm.refl _, List.Perm.refl _, HU0.out, ⟨rfl, rfl, rfl, Nat.le_refl _, fun _ _ _ => rfl⟩⟩
  case round =>
    clear HS0 HU0 hj
    obtain ⟨j, X, H, rfl, hj, hS, hP, hQ, hU, hG⟩ := hrel
    have HS : Hid (HpSt wr base BH g n c X H) := hS
    have HP : Hid (H.Perm H0) := hP
    have HQ : Hid (X.Perm X0) := hQ
    have HU : Hid (Mg.UpI (Mg.lessS lessE) n H j) := hU
    have HG : Hid (w.grownBy wr (some g)) := hG
    clear hS hP hQ hU hG
    by_cases h0 : j = 0
    · subst h0
      have w1 : IntKind.i64.wrap ((0 : Int) - 1) = -1 := by decide
      have w2 : (-1 : Int).tdiv 2 = 0 := by decide
      have w3 : IntKind.i64.wrap ((-1 : Int).tdiv 2) = 0 := by decide
      go_wp2
      go_end0
      exact ⟨rfl, ⟨X, H, HS.out, HP.out, HQ.out, Mg.up_done HU.out (fun h => by omega)⟩, HG.out⟩
    · obtain ⟨i, hi⟩ : ∃ i, i = (j - 1) / 2 := ⟨_, rfl⟩
      have w1 : IntKind.i64.wrap ((j : Int) - 1) = (j : Int) - 1 := by rw [IntKind.wrap_i64]; omega
      have w2 : ((j : Int) - 1).tdiv 2 = (i : Int) := by rw [Int.tdiv_eq_ediv_of_nonneg (by omega)]; omega
      have w3 : IntKind.i64.wrap (i : Int) = (i : Int) := by rw [IntKind.wrap_i64]; omega
      have hneI : ¬ (i : Int) = (j : Int) := by omega
      have hne : ((i : Int) == (j : Int)) = false := by simp; omega
      have hij : i < j := by omega
      have hLen := HS.out.len
      obtain ⟨u, hu⟩ : ∃ u, H[i]? = some u := ⟨_, List.getElem?_eq_getElem (by omega)⟩
      obtain ⟨v, hv⟩ : ∃ v, H[j]? = some v := ⟨_, List.getElem?_eq_getElem (by omega)⟩
      have hXL := HS.out.own.len
      obtain ⟨x, hx⟩ : ∃ x, X[i]? = some x := ⟨_, List.getElem?_eq_getElem (by omega)⟩
      obtain ⟨y, hy⟩ : ∃ y, X[j]? = some y := ⟨_, List.getElem?_eq_getElem (by omega)⟩
      have HI : Hid (i = (j - 1) / 2) := hi
      have HUu : Hid (H[i]? = some u) := hu
      have HVv : Hid (H[j]? = some v) := hv
      have HXx : Hid (X[i]? = some x) := hx
      have HYy : Hid (X[j]? = some y) := hy
      have hm := hmLess BH g n c wr HS.out.box
      have CL := HS.out.less hv hu (HLV.out _ (HP.out.mem_iff.1 (List.mem_of_getElem? hv))) (HLV.out _ (HP.out.mem_iff.1 (List.mem_of_getElem? hu)))
      clear hi hu hv hx hy hLen hXL
      go_wp2_with fail
      refine CL.mono ?_
      rintro e w1' ⟨rfl, hb1⟩
      have HS1 : Hid (HpSt w1' base BH g n c X H) := HS.out.below hb1
      have HG1 : Hid (w.grownBy w1' (some g)) := HG.out.trans ⟨hb1.os, hb1.tape, hb1.output, hb1.size, fun k hk _ => hb1.block k hk⟩
      clear HS HG hb1 hm CL
      cases hl : Mg.lessS lessE v u with
      | false =>
        go_wp2
        go_end0
        exact ⟨rfl, ⟨X, H, HS1.out, HP.out, HQ.out, Mg.up_done HU.out (fun _ _ p q hp hq => by rw [← HI.out, HUu.out] at hp; rw [HVv.out] at hq; cases hp; cases hq; exact hl)⟩, HG1.out⟩
      | true =>
        have hm := hmSwap BH g n c w1' HS1.out.box
        have CW := headsSwap base g n c i j X x y w1' HS1.out.own HXx.out HYy.out
        go_wp2_with fail
        refine CW.mono ?_
        rintro e w2' ⟨rfl, hO2, hg2⟩
        have HS2 : Hid (HpSt w2' base BH g n c (Mg.sw X i j x y) (Mg.sw H i j u v)) := HS1.out.swap HXx.out HYy.out HUu.out HVv.out hg2 hO2
        have HG2 : Hid (w.grownBy w2' (some g)) := HG1.out.trans hg2
        clear HS1 HG1 hO2 hg2 hm CW
        go_wp2
        go_roundw
        case rel =>
          refine ⟨i, _, _, rfl, by omega, HS2.out, (Mg.sw_perm HUu.out HVv.out).trans HP.out, (Mg.sw_perm HXx.out HYy.out).trans HQ.out, ?_, HG2.out⟩
          have := Mg.up_step (Mg.lessS_ord less_wk) HU.out (by omega) hj (by rw [← HI.out]; exact HUu.out) HVv.out hl
          rw [← HI.out] at this
          exact this
        case measure => simp [intOf] <;> omega
end Go.Proofs.YtlmgojlffgkciaaGreat

namespace Go.Proofs.YtlmgojlffgkciaaGreat
open Go.RowKit

theorem Tryz.infoStr : (Tryz.prog.info? 136).map (fun i => (i.zero, i.size, i.bytes)) = some (some (.agg #[.slice none 0 0, .int .i64 0]), 2, 32) := by kernel_rfl
theorem assertStr (u : Value) (xT : TypeId) (W : World) : (Instr.typeAssert (.iface 136 u) xT 136 true).run Tryz.prog W = .ok (.tuple #[u, .bool true]) W := by kernel_rfl
theorem cell_two_new (w : World) (x y : Value) (t : TypeId) : ∀ j u, [x, y][j]? = some u → (w.alloc (.cells #[x, y] t)).cell? ((⟨w.heap.size, 0, none⟩ : Addr).add j) = some u := by
  intro j u hj
  rw [Go.WideShapes.add_plain, Nat.zero_add]
  match j, hj with
  | 0, hj => simp at hj; subst hj; simp
  | 1, hj => simp at hj; subst hj; simp

set_option maxRecDepth 100000 in
set_option maxHeartbeats 4000000 in
theorem headsPush (base BH : Nat) (v : Value) (X : List StrD) (H : List (List EntD × Nat)) (xb xo xn xc xk : Nat) (e : EntD) (l : List EntD) (w : World) (hn : H.length ≤ 1048576) (hs : base ≤ w.heap.size) (hV : HpV w base BH v X H) (hE : EntsAt w (some ⟨xb, xo, none⟩) xn xc (e :: l)) (hx : xb < base) :
    Calls Tryz.prog 260 #[.pointer (some ⟨BH, 0, none⟩), .iface 136 (.agg #[.slice (some ⟨xb, xo, none⟩) xn xc, .int .i64 xk])] w fun en w' => en = .returned (.tuple #[]) ∧ (∃ g c, HpV w' base BH (.slice (some ⟨g, 0, none⟩) (H.length + 1) c) (X ++ [(xb, xo, xn, xc, xk)]) (H ++ [(e :: l, xk)])) ∧ Below base w w' ∧ KeepsOthers w w' ∧ KeptB BH w w' := by
  obtain ⟨i0, hi, hz0, hz1, hz2⟩ := info_parts Tryz.infoStr
  obtain ⟨XS, hXS⟩ : ∃ XS, XS = w.heap.size := ⟨_, rfl⟩
  obtain ⟨W, hW⟩ : ∃ W, W = w.alloc (.cells #[.slice (some ⟨xb, xo, none⟩) xn xc, .int .i64 xk] 136) := ⟨_, rfl⟩
  have kW : Below w.heap.size w W := by rw [hW]; exact (Below.refl _ _).alloc (Nat.le_refl _) _
  have oW : KeepsOthers w W := by rw [hW]; exact KeepsOthers.alloc _ _
  have c0 : W.cell? ⟨XS, 0, none⟩ = some (.slice (some ⟨xb, xo, none⟩) xn xc) := by rw [hW, hXS]; simp
  have c1 : W.cell? ⟨XS, 1, none⟩ = some (.int .i64 xk) := by rw [hW, hXS]; simp
  have hVW := hV.below kW
  have HNX : Hid (some XS ≠ v.ownBlock) := fun e => by have := (hV.row.lt XS e.symm).2; omega
  have HXB : Hid (XS ≠ BH) := fun e => by have := hV.box.lt; omega
  have HE : Hid (EntsAt W (some ⟨xb, xo, none⟩) xn xc (e :: l)) := hE.keep kW
  have HX : Hid (xb < base) := hx
  have HBS : Hid (base ≤ w.heap.size) := hs
  have HBW : Hid (Below w.heap.size w W) := kW
  have HKW : Hid (KeepsOthers w W) := oW
  have HVW : Hid (HpV W base BH v X H) := hVW
  have hszW := kW.size
  have hta := assertStr (.agg #[.slice (some ⟨xb, xo, none⟩) xn xc, .int .i64 xk])
  go_enter Tryz.func260, Tryz.ntmps260
  go_wp2_with fail
  rw [← hW, ← hXS]
  clear hW hXS kW oW hV hVW hE hx hta
  have k0 : HpV W.drew base BH v X H := HVW.out.below (Below.refl _ W).drew
  have bd : Below W.heap.size W W.drew := (Below.refl _ W).drew
  have od : KeepsOthers W W.drew := KeepsOthers.drew W
  have cd0 := cell_later bd c0
  have cd1 := cell_later bd c1
  clear c0 c1
  refine wp_region_held_drew (S := (fun w' => w'.cell? ⟨XS, 0, none⟩ = some (.slice (some ⟨xb, xo, none⟩) xn xc) ∧ w'.cell? ⟨XS, 1, none⟩ = some (.int .i64 xk) ∧ XS < w'.heap.size)) (by kernel_rfl) (⟨cd0, cd1, World.block_lt_of_cell? _ _ cd0⟩) (fun hHeld => ?_)
  generalize W.drew = wd at k0 cd0 cd1 bd od hHeld ⊢
  refine wpAnyH_takeL (i := 0) (v := ?_) rfl (by kernel_rfl) (by kernel_rfl) (by kernel_rfl) (fun _ _ _ h => h) (Or.inl ⟨by rfl, ?_⟩) hHeld ?_
  rotate_left
  · (intro w hSw; (try dsimp only at hSw); go_simp; try with_reducible rfl)
  try go_frame
  refine wpAnyH_takeL (i := 1) (v := ?_) rfl (by kernel_rfl) (by kernel_rfl) (by kernel_rfl) (fun _ _ _ h => h) (Or.inl ⟨by rfl, ?_⟩) hHeld ?_
  rotate_left
  · (intro w hSw; (try dsimp only at hSw); go_simp; try with_reducible rfl)
  try go_frame
  refine wpAnyH_takeL (i := 2) (v := ?_) rfl (by kernel_rfl) (by kernel_rfl) (by kernel_rfl) (fun _ _ _ h => h) (Or.inl ⟨by rfl, ?_⟩) hHeld ?_
  rotate_left
  · (intro w hSw; (try dsimp only at hSw); go_simp; try with_reducible rfl)
  try go_frame
  refine wpAnyH_takeL (i := 4) (v := ?_) rfl (by kernel_rfl) (by kernel_rfl) (by kernel_rfl) (fun _ _ _ h => h) (Or.inl ⟨by rfl, ?_⟩) hHeld ?_
  rotate_left
  · (intro w hSw; (try dsimp only at hSw); go_simp; try with_reducible rfl)
  try go_frame
  refine wpAnyH_ready (rs := [3, 5]) (by kernel_rfl) (by simp) ?_
  refine consL rfl (fun K hK => ?_) (consL rfl (fun K hK => ?_) AllReadyH.nil)
  · have cB := (k0).box.cell
    go_simp
    clear cB
    refine hK.out _ _ (⟨cd0, cd1, World.block_lt_of_cell? _ _ cd0⟩) (fun hHeld => ?_)
    clear hK K
    try go_frame
    refine wpAnyH_ready (rs := [5]) (by kernel_rfl) (by simp) ?_
    refine consL rfl (fun K hK => ?_) AllReadyH.nil
    go_simp
    have kc : Below wd.heap.size wd (wd.alloc (.cells #[.slice (some ⟨xb, xo, none⟩) xn xc, .int .i64 xk] 136)) := (Below.refl _ _).alloc (Nat.le_refl _) _
    have kb := k0.below kc
    have cb0 := cell_later kc cd0
    have cb1 := cell_later kc cd1
    have bb := bd.trans (kc.mono bd.size)
    have ko := od.trans (KeepsOthers.alloc wd (.cells #[.slice (some ⟨xb, xo, none⟩) xn xc, .int .i64 xk] 136))
    have nw := cell_two_new wd (.slice (some ⟨xb, xo, none⟩) xn xc) (.int .i64 xk) 136
    generalize wd.heap.size = gb at nw ⊢
    generalize wd.alloc (.cells #[.slice (some ⟨xb, xo, none⟩) xn xc, .int .i64 xk] 136) = wb at kb cb0 cb1 bb ko nw ⊢
    refine hK.out _ _ (⟨cb0, cb1, World.block_lt_of_cell? _ _ cb0⟩) (fun hHeld => ?_)
    clear hK K
    try go_frame
    refine wpAnyH_ready (rs := [6]) (by kernel_rfl) (by simp) ?_
    refine consL rfl (fun K hK => ?_) AllReadyH.nil
    refine step_append_own rfl (.tmp 15) (.tmp 17) 129 rfl base 136 i0 _ 2 32 Tryz.underlying129 hi hz0 hz1 hz2 rfl (Nat.succ_pos 1) _ _ _ rfl kb.row ⟨gb, 0, none⟩ 1 1 (strCells (xb, xo, xn, xc, xk)) rfl rfl nw (by simp [strCells, Value.oneCell']) ?_ ?_ ?_ ?_
    · unfold maxLen; omega
    · omega
    · have := bb.size; omega
    intro v1 w1 ho1 hg1 hn1
    obtain ⟨g1, c1, rfl⟩ := ownsRow_succ ho1
    have hEb := HE.out.keep bb
    obtain ⟨b1, p2, p3, p4, p5⟩ := kb.push (x := (xb, xo, xn, xc, xk)) hEb HX.out ho1 hg1
    have neX : some XS ≠ v.ownBlock := HNX.out
    have hg1' : wb.grownBy w1 v.ownBlock := hg1
    have ce0 : w1.cell? ⟨XS, 0, none⟩ = _ := (World.cell?_of_block (a := ⟨XS, 0, none⟩) (hg1'.block XS (World.block_lt_of_cell? _ _ cb0) neX)).trans cb0
    have ce1 : w1.cell? ⟨XS, 1, none⟩ = _ := (World.cell?_of_block (a := ⟨XS, 1, none⟩) (hg1'.block XS (World.block_lt_of_cell? _ _ cb1) neX)).trans cb1
    refine hK.out _ _ (⟨ce0, ce1, World.block_lt_of_cell? _ _ ce0⟩) (fun hHeld => ?_)
    clear hK K
    try go_frame
    refine wpAnyH_takeL (i := 7) (v := ?_) rfl (by kernel_rfl) (by kernel_rfl) (by kernel_rfl) (fun _ _ _ h => h) (Or.inl ⟨by rfl, ?_⟩) hHeld ?_
    rotate_left
    · (intro w hSw; (try dsimp only at hSw); go_simp; try with_reducible rfl)
    try go_frame
    refine wpAnyH_ready (rs := [8]) (by kernel_rfl) (by simp) ?_
    refine consL rfl (fun K hK => ?_) AllReadyH.nil
    have cB := b1.cell
    have fB := b1.frozen
    have lB := b1.lt
    go_simp
    clear cB fB lB
    refine hK.out _ _ (⟨(grown_cell (grownBy_setCell' w1 BH _) (x := ⟨XS, 0, none⟩) (World.block_lt_of_cell? _ _ ce0) HXB.out).trans ce0, (grown_cell (grownBy_setCell' w1 BH _) (x := ⟨XS, 1, none⟩) (World.block_lt_of_cell? _ _ ce1) HXB.out).trans ce1, World.block_lt_of_cell? _ _ ((grown_cell (grownBy_setCell' w1 BH _) (x := ⟨XS, 0, none⟩) (World.block_lt_of_cell? _ _ ce0) HXB.out).trans ce0)⟩) (fun hHeld => ?_)
    clear hK K
    try go_frame
    refine wpAnyH_done (by kernel_rfl) ?_ _
    clear hHeld
    go_wp2
    go_end0
    exact ⟨rfl, ⟨g1, c1, p2⟩, (HBW.out.trans (bb.mono HBW.out.size)).mono HBS.out |>.trans (p4 (Nat.le_trans HBS.out (Nat.le_trans HBW.out.size bb.size))), HKW.out.trans (ko.trans p3), (KeptB.below (HBW.out.trans (bb.mono HBW.out.size))).trans p5⟩
  · go_simp
    have kc : Below wd.heap.size wd (wd.alloc (.cells #[.slice (some ⟨xb, xo, none⟩) xn xc, .int .i64 xk] 136)) := (Below.refl _ _).alloc (Nat.le_refl _) _
    have kb := k0.below kc
    have cb0 := cell_later kc cd0
    have cb1 := cell_later kc cd1
    have bb := bd.trans (kc.mono bd.size)
    have ko := od.trans (KeepsOthers.alloc wd (.cells #[.slice (some ⟨xb, xo, none⟩) xn xc, .int .i64 xk] 136))
    have nw := cell_two_new wd (.slice (some ⟨xb, xo, none⟩) xn xc) (.int .i64 xk) 136
    generalize wd.heap.size = gb at nw ⊢
    generalize wd.alloc (.cells #[.slice (some ⟨xb, xo, none⟩) xn xc, .int .i64 xk] 136) = wb at kb cb0 cb1 bb ko nw ⊢
    refine hK.out _ _ (⟨cb0, cb1, World.block_lt_of_cell? _ _ cb0⟩) (fun hHeld => ?_)
    clear hK K
    try go_frame
    refine wpAnyH_ready (rs := [3]) (by kernel_rfl) (by simp) ?_
    refine consL rfl (fun K hK => ?_) AllReadyH.nil
    have cB := (kb).box.cell
    go_simp
    clear cB
    refine hK.out _ _ (⟨cb0, cb1, World.block_lt_of_cell? _ _ cb0⟩) (fun hHeld => ?_)
    clear hK K
    try go_frame
    refine wpAnyH_ready (rs := [6]) (by kernel_rfl) (by simp) ?_
    refine consL rfl (fun K hK => ?_) AllReadyH.nil
    refine step_append_own rfl (.tmp 15) (.tmp 17) 129 rfl base 136 i0 _ 2 32 Tryz.underlying129 hi hz0 hz1 hz2 rfl (Nat.succ_pos 1) _ _ _ rfl kb.row ⟨gb, 0, none⟩ 1 1 (strCells (xb, xo, xn, xc, xk)) rfl rfl nw (by simp [strCells, Value.oneCell']) ?_ ?_ ?_ ?_
    · unfold maxLen; omega
    · omega
    · have := bb.size; omega
    intro v1 w1 ho1 hg1 hn1
    obtain ⟨g1, c1, rfl⟩ := ownsRow_succ ho1
    have hEb := HE.out.keep bb
    obtain ⟨b1, p2, p3, p4, p5⟩ := kb.push (x := (xb, xo, xn, xc, xk)) hEb HX.out ho1 hg1
    have neX : some XS ≠ v.ownBlock := HNX.out
    have hg1' : wb.grownBy w1 v.ownBlock := hg1
    have ce0 : w1.cell? ⟨XS, 0, none⟩ = _ := (World.cell?_of_block (a := ⟨XS, 0, none⟩) (hg1'.block XS (World.block_lt_of_cell? _ _ cb0) neX)).trans cb0
    have ce1 : w1.cell? ⟨XS, 1, none⟩ = _ := (World.cell?_of_block (a := ⟨XS, 1, none⟩) (hg1'.block XS (World.block_lt_of_cell? _ _ cb1) neX)).trans cb1
    refine hK.out _ _ (⟨ce0, ce1, World.block_lt_of_cell? _ _ ce0⟩) (fun hHeld => ?_)
    clear hK K
    try go_frame
    refine wpAnyH_takeL (i := 7) (v := ?_) rfl (by kernel_rfl) (by kernel_rfl) (by kernel_rfl) (fun _ _ _ h => h) (Or.inl ⟨by rfl, ?_⟩) hHeld ?_
    rotate_left
    · (intro w hSw; (try dsimp only at hSw); go_simp; try with_reducible rfl)
    try go_frame
    refine wpAnyH_ready (rs := [8]) (by kernel_rfl) (by simp) ?_
    refine consL rfl (fun K hK => ?_) AllReadyH.nil
    have cB := b1.cell
    have fB := b1.frozen
    have lB := b1.lt
    go_simp
    clear cB fB lB
    refine hK.out _ _ (⟨(grown_cell (grownBy_setCell' w1 BH _) (x := ⟨XS, 0, none⟩) (World.block_lt_of_cell? _ _ ce0) HXB.out).trans ce0, (grown_cell (grownBy_setCell' w1 BH _) (x := ⟨XS, 1, none⟩) (World.block_lt_of_cell? _ _ ce1) HXB.out).trans ce1, World.block_lt_of_cell? _ _ ((grown_cell (grownBy_setCell' w1 BH _) (x := ⟨XS, 0, none⟩) (World.block_lt_of_cell? _ _ ce0) HXB.out).trans ce0)⟩) (fun hHeld => ?_)
    clear hK K
    try go_frame
    refine wpAnyH_done (by kernel_rfl) ?_ _
    clear hHeld
    go_wp2
    go_end0
    exact ⟨rfl, ⟨g1, c1, p2⟩, (HBW.out.trans (bb.mono HBW.out.size)).mono HBS.out |>.trans (p4 (Nat.le_trans HBS.out (Nat.le_trans HBW.out.size bb.size))), HKW.out.trans (ko.trans p3), (KeptB.below (HBW.out.trans (bb.mono HBW.out.size))).trans p5⟩
set_option maxRecDepth 100000 in
set_option maxHeartbeats 4000000 in
theorem heapPush (base BH : Nat) (v : Value) (X : List StrD) (H : List (List EntD × Nat)) (xb xo xn xc xk : Nat) (e : EntD) (l : List EntD) (w : World) (hn : H.length < 1048576) (hs : base ≤ w.heap.size) (hV : HpV w base BH v X H) (hE : EntsAt w (some ⟨xb, xo, none⟩) xn xc (e :: l)) (hx : xb < base) (hH : Mg.HeapTo (Mg.lessS lessE) H.length H) :
    Calls Tryz.prog 108 #[.iface 134 (.pointer (some ⟨BH, 0, none⟩)), .iface 136 (.agg #[.slice (some ⟨xb, xo, none⟩) xn xc, .int .i64 xk])] w fun en w' => en = .returned (.tuple #[]) ∧ (∃ v' X' H', HpV w' base BH v' X' H' ∧ H'.Perm (H ++ [(e :: l, xk)]) ∧ Mg.HeapTo (Mg.lessS lessE) H'.length H' ∧ (∃ g c, v' = .slice (some ⟨g, 0, none⟩) H'.length c)) ∧ Below base w w' ∧ KeepsOthers w w' ∧ KeptB BH w w' := by
  have hm := hmPush BH w
  have CP := headsPush base BH v X H xb xo xn xc xk e l w (by omega) hs hV hE hx
  have HH : Hid (Mg.HeapTo (Mg.lessS lessE) H.length H) := hH
  have HS : Hid (base ≤ w.heap.size) := hs
  clear hH hV hE hs hx
  go_enter Tryz.func108, Tryz.ntmps108
  go_wp2_with fail
  refine CP.mono ?_
  rintro en w1 ⟨rfl, ⟨g, c, hV1⟩, hb1, hk1, hq1⟩
  have HQ1 : Hid (KeptB BH w w1) := hq1
  have HB1 : Hid (Below base w w1) := hb1
  have HK1 : Hid (KeepsOthers w w1) := hk1
  have HV1 : Hid (HpV w1 base BH (.slice (some ⟨g, 0, none⟩) (H.length + 1) c) (X ++ [(xb, xo, xn, xc, xk)]) (H ++ [(e :: l, xk)])) := hV1
  have hlen : (H ++ [(e :: l, xk)]).length = H.length + 1 := by simp
  have hS1 := hV1.hp hlen
  have hm2 := hmLen BH g (H.length + 1) c w1 hS1.box
  have CN := headsLen (some ⟨g, 0, none⟩) (H.length + 1) c w1
  have hU : Mg.UpI (Mg.lessS lessE) (H.length + 1) (H ++ [(e :: l, xk)]) H.length := Mg.up_start HH.out rfl _
  have CU := heapUp base BH g (H.length + 1) c H.length _ _ w1 (by omega) (by omega) hS1 hU hV1.live
  have wk : IntKind.i64.wrap (((H.length + 1 : Nat) : Int) - 1) = (H.length : Int) := by rw [IntKind.wrap_i64]; omega
  have hgc : ∃ cc, w1.heap[g]? = some (.cells cc 136 (0, 0)) := hV1.cells rfl
  have HGC : Hid (∃ cc, w1.heap[g]? = some (.cells cc 136 (0, 0))) := hgc
  have HGB : Hid (base ≤ g) := (hS1.own.lt).1
  have HNE : Hid (BH ≠ g) := hS1.ne
  clear hb1 hk1 hq1 hV1 hS1 hU CP hm hlen HH hgc
  generalize H.length = n at *
  go_wp2_with fail
  refine CN.mono ?_
  rintro en w2 ⟨rfl, rfl⟩
  go_wp2_with fail
  refine CU.mono ?_
  rintro en w3 ⟨rfl, ⟨X', H', hS3, hP3, hX3, hT3⟩, hg3⟩
  have hbx := HV1.out.box.kept hg3 (fun e' => HNE.out (Option.some.inj e'))
  have HV3 : Hid (HpV w3 base BH (.slice (some ⟨g, 0, none⟩) (n + 1) c) X' H') := HV1.out.of hS3 hX3 (fun s hs => HV1.out.live s (hP3.mem_iff.1 hs)) hbx
  have HL3 : Hid (H'.length = n + 1) := hS3.len
  have HB3 : Hid (Below base w w3) := HB1.out.trans ((Below.refl base w2).grown hg3 (Nat.le_trans HS.out HB1.out.size) (fun k ek => by cases ek; exact HGB.out))
  have HK3 : Hid (KeepsOthers w w3) := HK1.out.trans (KeepsOthers.of_grownBy hg3 (fun j o ej ho => by cases ej; obtain ⟨cc, hc⟩ := HGC.out; rw [hc] at ho; cases ho; rfl))
  have HQ3 : Hid (KeptB BH w w3) := HQ1.out.trans (KeptB.grown hg3 HGC.out)
  have HP3 : Hid (H'.Perm (H ++ [(e :: l, xk)])) := hP3
  have HT3 : Hid (Mg.HeapTo (Mg.lessS lessE) (n + 1) H') := hT3
  clear hS3 hP3 hX3 hT3 hg3 hbx CU CN HB1 HK1 HQ1 hm2
  go_wp2
  go_end0
  exact ⟨rfl, ⟨_, X', H', HV3.out, HP3.out, by rw [HL3.out]; exact HT3.out, g, c, by rw [HL3.out]⟩, HB3.out, HK3.out, HQ3.out⟩
end Go.Proofs.YtlmgojlffgkciaaGreat
