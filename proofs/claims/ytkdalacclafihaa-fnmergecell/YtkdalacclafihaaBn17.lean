/-
  The library's heap.Pop at the program's heads, by a walk of its Go text.
  What a loop body over a function leaves as it was; no statement of the program stands here.
  Plain: the parts of a list that stand in order. No statement of the program stands here.
-/
import Derived.Test.YtkdalacclafihaaBn16
import Derived.Test.YtkdalacclafihaaBn13
import Derived.Test.YtkdalacclafihaaBn02
import Derived.RangeFuncNested
import Derived.RangeFuncBound
import Derived.RangeFuncCalls
import Derived.RangeFuncLeaves
import Derived.RangeFuncBox
import Derived.Shelf.Abstract
import Derived.Shelf.RegionOpen
import Derived.WalkKit
import Derived.OwnWalkIn
import Derived.TacticsInMore
import Derived.LoopNIn
import Derived.LoopIn
import Derived.Test.YtkdalacclafihaaBn11
namespace Go.Proofs.Ytkdalacclafihaa
open Go.RowKit

set_option maxRecDepth 100000 in
set_option maxHeartbeats 4000000 in
theorem heapPop (base BH g n c k : Nat) (X0 : List StrD) (H0 : List (List EntD × Nat)) (u : List EntD × Nat) (w : World) (hk : n = k + 1) (hn : n ≤ 1048576) (hB : base ≤ BH) (hfr : w.frozen? ⟨BH, 0, none⟩ = false) (hS : HpSt w base BH g n c X0 H0) (hH : Mg.HeapTo (Mg.lessS lessE) n H0) (hu : H0[0]? = some u) (hLv : ∀ (j : Nat) h, 0 < j → H0[j]? = some h → h.1 ≠ []) :
    Calls Try.prog 33 #[.iface 67 (.pointer (some ⟨BH, 0, none⟩))] w fun e w' => (∃ v, e = .returned v) ∧ (∃ X H, HpSt w' base BH g k c X H ∧ (u :: H).Perm H0 ∧ Mg.HeapTo (Mg.lessS lessE) k H ∧ ∀ x ∈ X, x ∈ X0) ∧ Below base w w' ∧ KeepsOthers w w' ∧ w'.frozen? ⟨BH, 0, none⟩ = false ∧ ∃ wm, w.grownBy wm (some g) ∧ wm.grownBy w' (some BH) := by
  have hl := hS.len
  have hXL := hS.own.len
  have hgb := hS.own.lt.1
  have hsz := hS.own.lt.2
  have zb := World.block_lt_of_cell? _ _ hS.box
  simp only at zb
  have hne := hS.ne
  have HGC : Hid (∃ cc, w.heap[g]? = some (.cells cc 69 (0, 0))) := hS.own.cells
  obtain ⟨v, hv⟩ : ∃ v, H0[k]? = some v := ⟨_, List.getElem?_eq_getElem (by omega)⟩
  obtain ⟨x, hx⟩ : ∃ x, X0[0]? = some x := ⟨_, List.getElem?_eq_getElem (by omega)⟩
  obtain ⟨y, hy⟩ : ∃ y, X0[k]? = some y := ⟨_, List.getElem?_eq_getElem (by omega)⟩
  have hm := hmLen BH g n c w hS.box
  have hm2 := hmSwap BH g n c w hS.box
  have CN := headsLen (some ⟨g, 0, none⟩) n c w
  have CW : Calls Try.prog 125 #[.slice (some ⟨g, 0, none⟩) n c, .int .i64 0, .int .i64 k] w fun e w' => e = .returned (.tuple #[]) ∧ OwnH w' base g n c ((X0.set 0 y).set k x) ∧ w.grownBy w' (some g) := headsSwap base g n c 0 k X0 x y w hS.own hx hy
  have wk : IntKind.i64.wrap ((n : Int) - 1) = (k : Int) := by rw [IntKind.wrap_i64]; omega
  have HS : Hid (HpSt w base BH g n c X0 H0) := hS
  have HHp : Hid (Mg.HeapTo (Mg.lessS lessE) n H0) := hH
  have HFR : Hid (w.frozen? ⟨BH, 0, none⟩ = false) := hfr
  have HK : Hid (n = k + 1) := hk
  have HLV : Hid (LiveTo k (Mg.sw H0 0 k u v)) := fun j s hj hs => by
    rw [Mg.sw_get hu hv, if_neg (by omega)] at hs
    by_cases h2 : j = 0
    · rw [if_pos h2] at hs; cases hs; exact hLv k _ (by omega) hv
    · rw [if_neg h2] at hs; exact hLv j s (by omega) hs
  have HXP : Hid ((Mg.sw X0 0 k x y).Perm X0) := Mg.sw_perm hx hy
  clear hS hH hfr hk hLv
  go_enter Try.func33, Try.ntmps33
  go_wp2_with fail
  refine CN.mono ?_
  rintro e w1 ⟨rfl, rfl⟩
  go_wp2_with fail
  refine CW.mono ?_
  rintro e w2 ⟨rfl, hO2, hg2⟩
  have HS2 : Hid (HpSt w2 base BH g n c (Mg.sw X0 0 k x y) (Mg.sw H0 0 k u v)) := HS.out.swap hx hy hu hv hg2 hO2
  have HD2 : Mg.DownI (Mg.lessS lessE) k (Mg.sw H0 0 k u v) 0 := Mg.down_start (HHp.out.fewer (by have := HK.out; omega)) (fun j j0 hj => by rw [Mg.sw_get hu hv, if_neg (by omega), if_neg (by omega)])
  have CD := heapDown base BH g n k c 0 _ _ w2 hn (by have := HK.out; omega) (by have := HK.out; omega) HS2.out HD2 HLV.out
  have HG2 : Hid (w1.grownBy w2 (some g)) := hg2
  have HPM : Hid ((Mg.sw H0 0 k u v).Perm H0) := Mg.sw_perm hu hv
  have HAT : Hid ((Mg.sw H0 0 k u v)[k]? = some u) := by show _ = _; rw [Mg.sw_get hu hv, if_pos rfl]
  clear hO2 hg2 HD2 CW CN hm hm2 HS HHp hu hv hx hy HS2
  go_wp2_with fail
  refine CD.mono ?_
  rintro e w3 ⟨⟨b, rfl⟩, ⟨X, H, hS3, hP3, hQ3, hK3, hH3⟩, hg3⟩
  have hg13 : w1.grownBy w3 (some g) := HG2.out.trans hg3
  have HK3 : Hid (KeepsOthers w1 w3) := KeepsOthers.of_grownBy hg13 (fun j o e ho => by cases e; obtain ⟨cc, hc⟩ := HGC.out; rw [hc] at ho; cases ho; rfl)
  have HG13 : Hid (w1.grownBy w3 (some g)) := hg13
  have HB3 : Hid (Below base w1 w3) := (Below.refl base w1).grown hg13 (by omega) (fun j e => by cases e; exact hgb)
  have hfr3 : w3.frozen? ⟨BH, 0, none⟩ = false := by rw [grown_frozen hg13 (x := ⟨BH, 0, none⟩) zb (fun e => hne (Option.some.inj e))]; exact HFR.out
  have hm := hmPop BH w3
  have CP := headsPop base BH g n c k X H w3 HK.out hn hB hfr3 hS3
  have HHL : Hid (H.length = n) := hS3.len
  have HPF : Hid ((u :: H.take k).Perm H0) := by
    have hlen := hS3.len
    have hku : H[k]? = some u := by rw [(hK3 k (Nat.le_refl _)).2]; exact HAT.out
    have hlt : k < H.length := (List.getElem?_eq_some_iff.1 hku).1
    have hd : H = H.take k ++ [u] := by
      conv => lhs; rw [← List.take_append_drop k H, List.drop_eq_getElem_cons hlt, List.drop_of_length_le (by have := HK.out; omega)]
      rw [(List.getElem?_eq_some_iff.1 hku).2]
    have hp : (u :: H.take k).Perm H := by
      conv => rhs; rw [hd]
      exact (List.perm_append_singleton u (H.take k)).symm
    exact hp.trans (hP3.trans HPM.out)
  have HXM : Hid (∀ z ∈ X.take k, z ∈ X0) := fun z hz => HXP.out.mem_iff.1 (hQ3.mem_iff.1 (List.mem_of_mem_take hz))
  have HHF : Hid (Mg.HeapTo (Mg.lessS lessE) k (H.take k)) := hH3.same (fun j hj => by rw [List.getElem?_take_of_lt hj])
  clear hS3 hP3 hQ3 hK3 hH3 hg3 hg13 CD
  go_wp2_with fail
  refine CP.mono ?_
  rintro e w4 ⟨⟨v4, rfl⟩, hS4, hb4, hk4, hf4, hgb4⟩
  have HGB4 : Hid (w3.grownBy w4 (some BH)) := hgb4
  have HS4 : Hid (HpSt w4 base BH g k c (X.take k) (H.take k)) := hS4
  have HB4 : Hid (Below base w1 w4) := HB3.out.trans hb4
  have HK4 : Hid (KeepsOthers w1 w4) := HK3.out.trans hk4
  have HF4 : Hid (w4.frozen? ⟨BH, 0, none⟩ = false) := hf4
  clear hS4 hb4 CP hm HB3 hk4 hf4 hgb4
  go_wp2
  go_ret
  exact ⟨⟨_, rfl⟩, ⟨_, _, HS4.out, HPF.out, HHF.out, HXM.out⟩, HB4.out, HK4.out, HF4.out, w3, HG13.out, HGB4.out⟩
end Go.Proofs.Ytkdalacclafihaa

namespace Go.Proofs.Ytkdalacclafihaa
open Go.RowKit Go.Shelf

/-- The blocks of K are as they were. -/
structure KeepS (K : Nat → Prop) (w w' : World) : Prop where
  os : w'.os = w.os
  tape : w'.tape = w.tape
  output : w'.output = w.output
  size : w.heap.size ≤ w'.heap.size
  block : ∀ k, K k → w'.heap[k]? = w.heap[k]?
theorem KeepS.of {K : Nat → Prop} {n₀ : Nat} {w w' : World} (h : Below n₀ w w') (hK : ∀ k, K k → k < n₀) : KeepS K w w' := ⟨h.os, h.tape, h.output, h.size, fun k hk => h.block k (hK k hk)⟩
theorem KeepS.refl (K : Nat → Prop) (w : World) : KeepS K w w := ⟨rfl, rfl, rfl, Nat.le_refl _, fun _ _ => rfl⟩
theorem KeepS.trans {K : Nat → Prop} {a b c : World} (h : KeepS K a b) (k : KeepS K b c) : KeepS K a c :=
  ⟨k.os.trans h.os, k.tape.trans h.tape, k.output.trans h.output, Nat.le_trans h.size k.size, fun i hi => (k.block i hi).trans (h.block i hi)⟩
theorem KeepS.cell {K : Nat → Prop} {w w' : World} (h : KeepS K w w') {p : Addr} (hp : K p.block) : w'.cell? p = w.cell? p := World.cell?_of_block (w := w) (h.block p.block hp)
theorem KeepS.grown {K : Nat → Prop} {w w' : World} {row : Option Nat} (hg : w.grownBy w' row) (hK : ∀ k, K k → k < w.heap.size ∧ some k ≠ row) : KeepS K w w' := ⟨hg.os, hg.tape, hg.output, hg.size, fun k hk => hg.block k (hK k hk).1 (hK k hk).2⟩
theorem keepS_b {K : Nat → Prop} {w : World} (hK : ∀ k, K k → k < w.heap.size) (W : World) (l : Nat) (o o' : Obj) (hl : w.heap.size ≤ l) (h : W.heap[l]? = some o) (hc : o.isCells = false) (hw : o.isWalk = false) : KeepS K W (W.putObj l o') :=
  KeepS.of (belowK_b (n₀ := w.heap.size) (w := w) (Nat.le_refl _) W l o o' hl h hc hw) hK
theorem EntsAt.keepS {K : Nat → Prop} {w w' : World} {a : Option Addr} {len cap : Nat} {L : List EntD} (h : EntsAt w a len cap L) (hk : KeepS K w w') (hK : ∀ x, a = some x → 0 < len → K x.block) : EntsAt w' a len cap L :=
  h.moved hk.size (fun x e hp o => hk.cell (p := ⟨x.block, o, none⟩) (hK x e hp))
end Go.Proofs.Ytkdalacclafihaa

namespace Go.Proofs.Ytkdalacclafihaa

/-- A stretch of a row. -/
abbrev StrS (n : Nat) : Type := { p : Nat × Nat // p.1 < p.2 ∧ p.2 ≤ n }
def segS (L : List EntD) {n : Nat} (p : StrS n) : List EntD := (L.drop p.1.1).take (p.1.2 - p.1.1)
/-- These are all stretches of a list, each in order. -/
def AllS (L : List EntD) {n : Nat} (ys : List (StrS n)) : Prop := (ys.map (segS L)).flatten = L ∧ ∀ l ∈ ys.map (segS L), l ≠ [] ∧ Mg.Asc lessE l

theorem asc_one (L : List EntD) (f : Nat) : Mg.Asc lessE ((L.drop f).take (f + 1 - f)) := by
  rw [Nat.add_sub_cancel_left]
  unfold Mg.Asc
  rw [List.pairwise_iff_getElem]
  intro i j hi hj hij
  have h1 : j < 1 := Nat.lt_of_lt_of_le hj (List.length_take_le _ _)
  omega
theorem asc_more {L : List EntD} {f t : Nat} {x y : EntD} (hf : f < t) (hx : L[t - 1]? = some x) (hy : L[t]? = some y) (hA : Mg.Asc lessE ((L.drop f).take (t - f))) (h : lessE y x = false) : Mg.Asc lessE ((L.drop f).take (t + 1 - f)) := by
  obtain ⟨hxl, hxe⟩ := List.getElem?_eq_some_iff.1 hx
  obtain ⟨hyl, hye⟩ := List.getElem?_eq_some_iff.1 hy
  unfold Mg.Asc at hA ⊢
  rw [List.pairwise_iff_getElem] at hA ⊢
  intro i j hi hj hij
  have hj' := hj
  have hi' := hi
  rw [List.length_take, List.length_drop] at hj' hi'
  rw [List.getElem_take, List.getElem_drop, List.getElem_take, List.getElem_drop]
  by_cases h1 : j < t - f
  · have := hA i j (by rw [List.length_take, List.length_drop]; omega) (by rw [List.length_take, List.length_drop]; omega) hij
    rw [List.getElem_take, List.getElem_drop, List.getElem_take, List.getElem_drop] at this
    exact this
  · have e1 : f + j = t := by omega
    have e2 : L[f + j]'(by omega) = y := by
      have := List.getElem?_eq_getElem (l := L) (i := f + j) (by omega)
      exact Option.some.inj (this.symm.trans (by rw [e1]; exact hy))
    rw [e2]
    by_cases h2 : i = t - 1 - f
    · have e3 : f + i = t - 1 := by omega
      have e4 : L[f + i]'(by omega) = x := by
        have := List.getElem?_eq_getElem (l := L) (i := f + i) (by omega)
        exact Option.some.inj (this.symm.trans (by rw [e3]; exact hx))
      rw [e4]
      exact h
    · have := hA i (t - 1 - f) (by rw [List.length_take, List.length_drop]; omega) (by rw [List.length_take, List.length_drop]; omega) (by omega)
      rw [List.getElem_take, List.getElem_drop, List.getElem_take, List.getElem_drop] at this
      have e4 : L[f + (t - 1 - f)]'(by omega) = x := by
        have h5 := List.getElem?_eq_getElem (l := L) (i := f + (t - 1 - f)) (by omega)
        exact Option.some.inj (h5.symm.trans (by rw [show f + (t - 1 - f) = t - 1 by omega]; exact hx))
      rw [e4] at this
      exact lessE_ntrans h this
/-- How far the stretches are: all up to f. -/
def UpS (L : List EntD) {n : Nat} (f : Nat) (ys : List (StrS n)) : Prop := (ys.map (segS L)).flatten = L.take f ∧ ∀ l ∈ ys.map (segS L), l ≠ [] ∧ Mg.Asc lessE l
theorem UpS.zero (L : List EntD) {n : Nat} : UpS L 0 ([] : List (StrS n)) := ⟨rfl, fun l hl => by cases hl⟩
theorem UpS.step {L : List EntD} {n f t : Nat} {ys : List (StrS n)} (h : UpS L f ys) (hL : L.length = n) (hft : f < t) (htn : t ≤ n) (hA : Mg.Asc lessE ((L.drop f).take (t - f))) : UpS L t (ys ++ [⟨(f, t), hft, htn⟩]) := by
  refine ⟨?_, fun l hl => ?_⟩
  · rw [List.map_append, List.flatten_append, h.1]
    simp only [List.map_cons, List.map_nil, List.flatten_cons, List.flatten_nil, List.append_nil]
    show L.take f ++ (L.drop f).take (t - f) = _
    rw [show L.take t = L.take (f + (t - f)) by rw [show f + (t - f) = t by omega], List.take_add]
  · rw [List.map_append] at hl
    rcases List.mem_append.1 hl with h1 | h1
    · exact h.2 l h1
    · simp only [List.map_cons, List.map_nil, List.mem_singleton] at h1
      subst h1
      refine ⟨fun e => ?_, hA⟩
      have : ((L.drop f).take (t - f)).length = 0 := by
        have e' : (L.drop f).take (t - f) = [] := e
        rw [e']; rfl
      rw [List.length_take, List.length_drop] at this
      omega
theorem UpS.done {L : List EntD} {n : Nat} {ys : List (StrS n)} (h : UpS L n ys) (hL : L.length = n) : AllS L ys := ⟨by rw [h.1, List.take_of_length_le (by omega)], h.2⟩
end Go.Proofs.Ytkdalacclafihaa
