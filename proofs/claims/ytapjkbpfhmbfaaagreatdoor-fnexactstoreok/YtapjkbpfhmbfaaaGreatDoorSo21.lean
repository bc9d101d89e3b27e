/-
  The library's heap.Fix at the first of a heap, at the program's heads, by a walk of its Go text.
  The library's heap.Pop at the program's heads, by a walk of its Go text.
  What a loop body over a function leaves as it was; no statement of the program stands here.
  Plain: the parts of a list that stand in order. No statement of the program stands here.
  The program's stretchesOf: the parts of a list that stand in order, yielded from the first on; by walks of its Go text.
-/
import Derived.Test.YtapjkbpfhmbfaaaGreatDoorSo20
import Derived.Test.YtapjkbpfhmbfaaaGreatDoorSo19
import Derived.RangeFuncNested
import Derived.RangeFuncBound
import Derived.RangeFuncCalls
import Derived.RangeFuncLeaves
import Derived.RangeFuncBox
import Derived.Shelf.Abstract
import Derived.Shelf.RegionOpen
import Derived.WalkKit
import Derived.OwnWalkIn
import Derived.TacticsInMore
import Derived.LoopNIn
import Derived.LoopIn
import Derived.Test.YtapjkbpfhmbfaaaGreatDoorSo02
import Derived.Test.YtapjkbpfhmbfaaaGreatDoorSo18
import Derived.Test.YtapjkbpfhmbfaaaGreatDoorSo13
import Derived.Test.YtapjkbpfhmbfaaaGreatDoorSo03
namespace Go.Proofs.YtapjkbpfhmbfaaaGreatDoor
open Go.RowKit
set_option maxRecDepth 100000
set_option maxHeartbeats 4000000
theorem heapFix (base BH g n c : Nat) (X0 : List StrD) (H0 : List (List EntD × Nat)) (w : World) (hn : n ≤ 1048576) (hn0 : 0 < n) (hS : HpSt w base BH g n c X0 H0) (hD : Mg.DownI (Mg.lessS lessE) n H0 0) (hLv : ∀ h ∈ H0, h.1 ≠ []) :
    Calls Tryz.prog 205 #[.iface 222 (.pointer (some ⟨BH, 0, none⟩)), .int .i64 0] w fun e w' => e = .returned (.tuple #[]) ∧ (∃ X H, HpSt w' base BH g n c X H ∧ H.Perm H0 ∧ X.Perm X0 ∧ Mg.HeapTo (Mg.lessS lessE) n H) ∧ w.grownBy w' (some g) := by
  have hm := hmLen BH g n c w hS.box
  have CN := headsLen (some ⟨g, 0, none⟩) n c w
  have CD := heapDown base BH g n n c 0 X0 H0 w hn (Nat.le_refl _) hn0 hS hD (LiveTo.of hLv)
  have HLV : Hid (∀ h ∈ H0, h.1 ≠ []) := hLv
  clear hS hD hLv
  go_enter Tryz.func205, Tryz.ntmps205
  go_wp2_with fail
  refine CN.mono ?_
  rintro e w1 ⟨rfl, rfl⟩
  go_wp2_with fail
  refine CD.mono ?_
  rintro e w2 ⟨⟨b, rfl⟩, ⟨X, H, hS2, hP, hQ, _, hH⟩, hg2⟩
  have HS2 : Hid (HpSt w2 base BH g n c X H) := hS2
  have HP : Hid (H.Perm H0) := hP
  have HQ : Hid (X.Perm X0) := hQ
  have HH : Hid (Mg.HeapTo (Mg.lessS lessE) n H) := hH
  have HG2 : Hid (w1.grownBy w2 (some g)) := hg2
  clear hS2 hP hQ hH hg2 CN CD hm
  cases b with
  | true =>
    go_wp2
    go_end0
    exact ⟨rfl, ⟨X, H, HS2.out, HP.out, HQ.out, HH.out⟩, HG2.out⟩
  | false =>
    have CU := heapUp base BH g n c 0 X H w2 hn hn0 HS2.out (Mg.down_up HH.out) (fun h hh => HLV.out h (HP.out.mem_iff.1 hh))
    go_wp2_with fail
    refine CU.mono ?_
    rintro e w3 ⟨rfl, ⟨X', H', hS3, hP3, hQ3, hH3⟩, hg3⟩
    have HS3 : Hid (HpSt w3 base BH g n c X' H') := hS3
    have HP3 : Hid (H'.Perm H0) := hP3.trans HP.out
    have HQ3 : Hid (X'.Perm X0) := hQ3.trans HQ.out
    have HH3 : Hid (Mg.HeapTo (Mg.lessS lessE) n H') := hH3
    have HG3 : Hid (w1.grownBy w3 (some g)) := HG2.out.trans hg3
    clear hS3 hP3 hQ3 hH3 hg3 CU
    go_wp2
    go_end0
    exact ⟨rfl, ⟨X', H', HS3.out, HP3.out, HQ3.out, HH3.out⟩, HG3.out⟩
end Go.Proofs.YtapjkbpfhmbfaaaGreatDoor

namespace Go.Proofs.YtapjkbpfhmbfaaaGreatDoor
open Go.RowKit
set_option maxRecDepth 100000
set_option maxHeartbeats 4000000
theorem heapPop (base BH g n c k : Nat) (X0 : List StrD) (H0 : List (List EntD × Nat)) (u : List EntD × Nat) (w : World) (hk : n = k + 1) (hn : n ≤ 1048576) (hB : base ≤ BH) (hfr : w.frozen? ⟨BH, 0, none⟩ = false) (hS : HpSt w base BH g n c X0 H0) (hH : Mg.HeapTo (Mg.lessS lessE) n H0) (hu : H0[0]? = some u) (hLv : ∀ (j : Nat) h, 0 < j → H0[j]? = some h → h.1 ≠ []) :
    Calls Tryz.prog 204 #[.iface 222 (.pointer (some ⟨BH, 0, none⟩))] w fun e w' => (∃ v, e = .returned v) ∧ (∃ X H, HpSt w' base BH g k c X H ∧ (u :: H).Perm H0 ∧ Mg.HeapTo (Mg.lessS lessE) k H ∧ ∀ x ∈ X, x ∈ X0) ∧ Below base w w' ∧ KeepsOthers w w' ∧ w'.frozen? ⟨BH, 0, none⟩ = false ∧ ∃ wm, w.grownBy wm (some g) ∧ wm.grownBy w' (some BH) := by
  have hl := hS.len
  have hXL := hS.own.len
  have hgb := hS.own.lt.1
  have hsz := hS.own.lt.2
  have zb := World.block_lt_of_cell? _ _ hS.box
  simp only at zb
  have hne := hS.ne
  have HGC : Hid (∃ cc, w.heap[g]? = some (.cells cc 224 (0, 0))) := hS.own.cells
  obtain ⟨v, hv⟩ : ∃ v, H0[k]? = some v := ⟨_, List.getElem?_eq_getElem (by omega)⟩
  obtain ⟨x, hx⟩ : ∃ x, X0[0]? = some x := ⟨_, List.getElem?_eq_getElem (by omega)⟩
  obtain ⟨y, hy⟩ : ∃ y, X0[k]? = some y := ⟨_, List.getElem?_eq_getElem (by omega)⟩
  have hm := hmLen BH g n c w hS.box
  have hm2 := hmSwap BH g n c w hS.box
  have CN := headsLen (some ⟨g, 0, none⟩) n c w
  have CW : Calls Tryz.prog 355 #[.slice (some ⟨g, 0, none⟩) n c, .int .i64 0, .int .i64 k] w fun e w' => e = .returned (.tuple #[]) ∧ OwnH w' base g n c ((X0.set 0 y).set k x) ∧ w.grownBy w' (some g) := headsSwap base g n c 0 k X0 x y w hS.own hx hy
  have wk : IntKind.i64.wrap ((n : Int) - 1) = (k : Int) := by rw [IntKind.wrap_i64]; omega
  have HS : Hid (HpSt w base BH g n c X0 H0) := hS
  have HHp : Hid (Mg.HeapTo (Mg.lessS lessE) n H0) := hH
  have HFR : Hid (w.frozen? ⟨BH, 0, none⟩ = false) := hfr
  have HK : Hid (n = k + 1) := hk
  have HLV : Hid (LiveTo k (Mg.sw H0 0 k u v)) := fun j s hj hs => by
    rw [Mg.sw_get hu hv, if_neg (by omega)] at hs
    by_cases h2 : j = 0
    · rw [if_pos h2] at hs; cases hs; exact hLv k _ (by omega) hv
    · rw [if_neg h2] at hs; exact hLv j s (by omega) hs
  have HXP : Hid ((Mg.sw X0 0 k x y).Perm X0) := Mg.sw_perm hx hy
  clear hS hH hfr hk hLv
  go_enter Tryz.func204, Tryz.ntmps204
  go_wp2_with fail
  refine CN.mono ?_
  rintro e w1 ⟨rfl, rfl⟩
  go_wp2_with fail
  refine CW.mono ?_
  rintro e w2 ⟨rfl, hO2, hg2⟩
  have HS2 : Hid (HpSt w2 base BH g n c (Mg.sw X0 0 k x y) (Mg.sw H0 0 k u v)) := HS.out.swap hx hy hu hv hg2 hO2
  have HD2 : Mg.DownI (Mg.lessS lessE) k (Mg.sw H0 0 k u v) 0 := Mg.down_start (HHp.out.fewer (by have := HK.out; omega)) (fun j j0 hj => by rw [Mg.sw_get hu hv, if_neg (by omega), if_neg (by omega)])
  have CD := heapDown base BH g n k c 0 _ _ w2 hn (by have := HK.out; omega) (by have := HK.out; omega) HS2.out HD2 HLV.out
  have HG2 : Hid (w1.grownBy w2 (some g)) := hg2
  have HPM : Hid ((Mg.sw H0 0 k u v).Perm H0) := Mg.sw_perm hu hv
  have HAT : Hid ((Mg.sw H0 0 k u v)[k]? = some u) := by show _ = _; rw [Mg.sw_get hu hv, if_pos rfl]
  clear hO2 hg2 HD2 CW CN hm hm2 HS HHp hu hv hx hy HS2
  go_wp2_with fail
  refine CD.mono ?_
  rintro e w3 ⟨⟨b, rfl⟩, ⟨X, H, hS3, hP3, hQ3, hK3, hH3⟩, hg3⟩
  have hg13 : w1.grownBy w3 (some g) := HG2.out.trans hg3
  have HK3 : Hid (KeepsOthers w1 w3) := KeepsOthers.of_grownBy hg13 (fun j o e ho => by cases e; obtain ⟨cc, hc⟩ := HGC.out; rw [hc] at ho; cases ho; rfl)
  have HG13 : Hid (w1.grownBy w3 (some g)) := hg13
  have HB3 : Hid (Below base w1 w3) := (Below.refl base w1).grown hg13 (by omega) (fun j e => by cases e; exact hgb)
  have hfr3 : w3.frozen? ⟨BH, 0, none⟩ = false := by rw [grown_frozen hg13 (x := ⟨BH, 0, none⟩) zb (fun e => hne (Option.some.inj e))]; exact HFR.out
  have hm := hmPop BH w3
  have CP := headsPop base BH g n c k X H w3 HK.out hn hB hfr3 hS3
  have HHL : Hid (H.length = n) := hS3.len
  have HPF : Hid ((u :: H.take k).Perm H0) := by
    have hlen := hS3.len
    have hku : H[k]? = some u := by rw [(hK3 k (Nat.le_refl _)).2]; exact HAT.out
    have hlt : k < H.length := (List.getElem?_eq_some_iff.1 hku).1
    have hd : H = H.take k ++ [u] := by
      conv => lhs; rw [← List.take_append_drop k H, List.drop_eq_getElem_cons hlt, List.drop_of_length_le (by have := HK.out; omega)]
      rw [(List.getElem?_eq_some_iff.1 hku).2]
    have hp : (u :: H.take k).Perm H := by
      conv => rhs; rw [hd]
      exact (List.perm_append_singleton u (H.take k)).symm
    exact hp.trans (hP3.trans HPM.out)
  have HXM : Hid (∀ z ∈ X.take k, z ∈ X0) := fun z hz => HXP.out.mem_iff.1 (hQ3.mem_iff.1 (List.mem_of_mem_take hz))
  have HHF : Hid (Mg.HeapTo (Mg.lessS lessE) k (H.take k)) := hH3.same (fun j hj => by rw [List.getElem?_take_of_lt hj])
  clear hS3 hP3 hQ3 hK3 hH3 hg3 hg13 CD
  go_wp2_with fail
  refine CP.mono ?_
  rintro e w4 ⟨⟨v4, rfl⟩, hS4, hb4, hk4, hf4, hgb4⟩
  have HGB4 : Hid (w3.grownBy w4 (some BH)) := hgb4
  have HS4 : Hid (HpSt w4 base BH g k c (X.take k) (H.take k)) := hS4
  have HB4 : Hid (Below base w1 w4) := HB3.out.trans hb4
  have HK4 : Hid (KeepsOthers w1 w4) := HK3.out.trans hk4
  have HF4 : Hid (w4.frozen? ⟨BH, 0, none⟩ = false) := hf4
  clear hS4 hb4 CP hm HB3 hk4 hf4 hgb4
  go_wp2
  go_ret
  exact ⟨⟨_, rfl⟩, ⟨_, _, HS4.out, HPF.out, HHF.out, HXM.out⟩, HB4.out, HK4.out, HF4.out, w3, HG13.out, HGB4.out⟩
end Go.Proofs.YtapjkbpfhmbfaaaGreatDoor

namespace Go.Proofs.YtapjkbpfhmbfaaaGreatDoor
open Go.RowKit Go.Shelf
structure KeepS (K : Nat → Prop) (w w' : World) : Prop where
  os : w'.os = w.os
  tape : w'.tape = w.tape
  output : w'.output = w.output
  size : w.heap.size ≤ w'.heap.size
  block : ∀ k, K k → w'.heap[k]? = w.heap[k]?
theorem KeepS.of {K : Nat → Prop} {n₀ : Nat} {w w' : World} (h : Below n₀ w w') (hK : ∀ k, K k → k < n₀) : KeepS K w w' := ⟨h.os, h.tape, h.output, h.size, fun k hk => h.block k (hK k hk)⟩
theorem KeepS.refl (K : Nat → Prop) (w : World) : KeepS K w w := ⟨rfl, rfl, rfl, Nat.le_refl _, fun _ _ => rfl⟩
theorem KeepS.trans {K : Nat → Prop} {a b c : World} (h : KeepS K a b) (k : KeepS K b c) : KeepS K a c :=
  ⟨k.os.trans h.os, k.tape.trans h.tape, k.output.trans h.output, Nat.le_trans h.size k.size, fun i hi => (k.block i hi).trans (h.block i hi)⟩
theorem KeepS.cell {K : Nat → Prop} {w w' : World} (h : KeepS K w w') {p : Addr} (hp : K p.block) : w'.cell? p = w.cell? p := World.cell?_of_block (w := w) (h.block p.block hp)
theorem KeepS.grown {K : Nat → Prop} {w w' : World} {row : Option Nat} (hg : w.grownBy w' row) (hK : ∀ k, K k → k < w.heap.size ∧ some k ≠ row) : KeepS K w w' := ⟨hg.os, hg.tape, hg.output, hg.size, fun k hk => hg.block k (hK k hk).1 (hK k hk).2⟩
theorem keepS_b {K : Nat → Prop} {w : World} (hK : ∀ k, K k → k < w.heap.size) (W : World) (l : Nat) (o o' : Obj) (hl : w.heap.size ≤ l) (h : W.heap[l]? = some o) (hc : o.isCells = false) (hw : o.isWalk = false) : KeepS K W (W.putObj l o') :=
  KeepS.of (belowK_b (n₀ := w.heap.size) (w := w) (Nat.le_refl _) W l o o' hl h hc hw) hK
theorem EntsAt.keepS {K : Nat → Prop} {w w' : World} {a : Option Addr} {len cap : Nat} {L : List EntD} (h : EntsAt w a len cap L) (hk : KeepS K w w') (hK : ∀ x, a = some x → 0 < len → K x.block) : EntsAt w' a len cap L :=
  h.moved hk.size (fun x e hp o => hk.cell (p := ⟨x.block, o, none⟩) (hK x e hp))
end Go.Proofs.YtapjkbpfhmbfaaaGreatDoor

namespace Go.Proofs.YtapjkbpfhmbfaaaGreatDoor
abbrev StrS (n : Nat) : Type := { p : Nat × Nat // p.1 < p.2 ∧ p.2 ≤ n }
def segS (L : List EntD) {n : Nat} (p : StrS n) : List EntD := (L.drop p.1.1).take (p.1.2 - p.1.1)
def AllS (L : List EntD) {n : Nat} (ys : List (StrS n)) : Prop := (ys.map (segS L)).flatten = L ∧ ∀ l ∈ ys.map (segS L), l ≠ [] ∧ Mg.Asc lessE l
theorem asc_one (L : List EntD) (f : Nat) : Mg.Asc lessE ((L.drop f).take (f + 1 - f)) := by
  rw [Nat.add_sub_cancel_left]
  unfold Mg.Asc
  rw [List.pairwise_iff_getElem]
  intro i j hi hj hij
  have h1 : j < 1 := Nat.lt_of_lt_of_le hj (List.length_take_le _ _)
  omega
theorem asc_more {L : List EntD} {f t : Nat} {x y : EntD} (hf : f < t) (hx : L[t - 1]? = some x) (hy : L[t]? = some y) (hA : Mg.Asc lessE ((L.drop f).take (t - f))) (h : lessE y x = false) : Mg.Asc lessE ((L.drop f).take (t + 1 - f)) := by
  obtain ⟨hxl, hxe⟩ := List.getElem?_eq_some_iff.1 hx
  obtain ⟨hyl, hye⟩ := List.getElem?_eq_some_iff.1 hy
  unfold Mg.Asc at hA ⊢
  rw [List.pairwise_iff_getElem] at hA ⊢
  intro i j hi hj hij
  have hj' := hj
  have hi' := hi
  rw [List.length_take, List.length_drop] at hj' hi'
  rw [List.getElem_take, List.getElem_drop, List.getElem_take, List.getElem_drop]
  by_cases h1 : j < t - f
  · have := hA i j (by rw [List.length_take, List.length_drop]; omega) (by rw [List.length_take, List.length_drop]; omega) hij
    rw [List.getElem_take, List.getElem_drop, List.getElem_take, List.getElem_drop] at this
    exact this
  · have e1 : f + j = t := by omega
    have e2 : L[f + j]'(by omega) = y := by
      have := List.getElem?_eq_getElem (l := L) (i := f + j) (by omega)
      exact Option.some.inj (this.symm.trans (by rw [e1]; exact hy))
    rw [e2]
    by_cases h2 : i = t - 1 - f
    · have e3 : f + i = t - 1 := by omega
      have e4 : L[f + i]'(by omega) = x := by
        have := List.getElem?_eq_getElem (l := L) (i := f + i) (by omega)
        exact Option.some.inj (this.symm.trans (by rw [e3]; exact hx))
      rw [e4]
      exact h
    · have := hA i (t - 1 - f) (by rw [List.length_take, List.length_drop]; omega) (by rw [List.length_take, List.length_drop]; omega) (by omega)
      rw [List.getElem_take, List.getElem_drop, List.getElem_take, List.getElem_drop] at this
      have e4 : L[f + (t - 1 - f)]'(by omega) = x := by
        have h5 := List.getElem?_eq_getElem (l := L) (i := f + (t - 1 - f)) (by omega)
        exact Option.some.inj (h5.symm.trans (by rw [show f + (t - 1 - f) = t - 1 by omega]; exact hx))
      rw [e4] at this
      exact lessE_ntrans h this
def UpS (L : List EntD) {n : Nat} (f : Nat) (ys : List (StrS n)) : Prop := (ys.map (segS L)).flatten = L.take f ∧ ∀ l ∈ ys.map (segS L), l ≠ [] ∧ Mg.Asc lessE l
theorem UpS.zero (L : List EntD) {n : Nat} : UpS L 0 ([] : List (StrS n)) := ⟨rfl, fun l hl => by cases hl⟩
theorem UpS.step {L : List EntD} {n f t : Nat} {ys : List (StrS n)} (h : UpS L f ys) (hL : L.length = n) (hft : f < t) (htn : t ≤ n) (hA : Mg.Asc lessE ((L.drop f).take (t - f))) : UpS L t (ys ++ [⟨(f, t), hft, htn⟩]) := by
  refine ⟨?_, fun l hl => ?_⟩
  · rw [List.map_append, List.flatten_append, h.1]
    simp only [List.map_cons, List.map_nil, List.flatten_cons, List.flatten_nil, List.append_nil]
    show L.take f ++ (L.drop f).take (t - f) = _
    rw [show L.take t = L.take (f + (t - f)) by rw [show f + (t - f) = t by omega], List.take_add]
  · rw [List.map_append] at hl
    rcases List.mem_append.1 hl with h1 | h1
    · exact h.2 l h1
    · simp only [List.map_cons, List.map_nil, List.mem_singleton] at h1
      subst h1
      refine ⟨fun e => ?_, hA⟩
      have : ((L.drop f).take (t - f)).length = 0 := by
        have e' : (L.drop f).take (t - f) = [] := e
        rw [e']; rfl
      rw [List.length_take, List.length_drop] at this
      omega
theorem UpS.done {L : List EntD} {n : Nat} {ys : List (StrS n)} (h : UpS L n ys) (hL : L.length = n) : AllS L ys := ⟨by rw [h.1, List.take_of_length_le (by omega)], h.2⟩
end Go.Proofs.YtapjkbpfhmbfaaaGreatDoor

namespace Go.Proofs.YtapjkbpfhmbfaaaGreatDoor
set_option maxRecDepth 100000
set_option maxHeartbeats 4000000
open Go.RowKit Go.Shelf
attribute [local go_sem] Oper.semAt_some
def encS (b off cap : Nat) {n : Nat} (p : StrS n) : Array Value := #[Value.slice (some ⟨b, off + p.1.1 * 5, none⟩) (p.1.2 - p.1.1) (cap - p.1.1)]
theorem stretch1_in (n l B1 : Nat) (K : Nat → Prop) (hn : 2 ≤ n) (b off : Nat) (al : Option Addr) (len cap : Nat) (hal : 1 ≤ len → al = some ⟨b, off, none⟩) (L : List EntD) (J Jx : List (StrS len) → World → Prop) (W : World)
    (hY : ∀ pre (x : StrS len) W1, J pre W1 → pre.length < len → YieldAt Fence.wide (n - 1) Tryz.prog l (encS b off cap x) W1 fun e W' =>
      (e = .returned (.bool true) ∧ J (pre ++ [x]) W' ∧ KeepS K W1 W') ∨ (e = .returned (.bool false) ∧ Jx (pre ++ [x]) W'))
    (hJ : AbidesFrom W.heap.size J)
    (hK1 : K B1) (hKb : 1 ≤ len → K b) (hKs : ∀ k, K k → k < W.heap.size)
    (hp1 : W.cell? ⟨B1, 0, none⟩ = some (.slice al len cap))
    (hL : EntsAt W al len cap L) (hlen : len ≤ 1048576) (h0 : J [] W) :
    CallsIn Fence.wide n Tryz.prog 247 #[.func (.yield l) #[] #[], .pointer (some ⟨B1, 0, none⟩)] W fun e W' => (∃ v, e = .returned v) ∧
      ((∃ ys, AllS L ys ∧ J ys W') ∨ (∃ pre : List (StrS len), True ∧ Jx pre W')) := by
  have HLEN : Hid (L.length = len) := hL.length
  have hroom := hL.room
  have hbig := hL.big
  unfold maxLen at hbig
  have HKZ : Hid (∀ k, K k → k < W.heap.size) := hKs
  have HLK : Hid (∀ w', KeepS K W w' → EntsAt w' al len cap L) := fun w' k => hL.keepS k (fun x e hp => by rw [hal (by omega)] at e; cases e; exact hKb (by omega))
  have HJ : Hid (AbidesFrom W.heap.size J) := hJ
  have HP1 : Hid (∀ w', KeepS K W w' → w'.cell? ⟨B1, 0, none⟩ = some (.slice al len cap)) := fun w' k => (k.cell (p := ⟨B1, 0, none⟩) hK1).trans hp1
  have HBW : Hid (1 ≤ len → b < W.heap.size) := fun h => hKs b (hKb h)
  have hn1 : 1 ≤ n := by omega
  have hB1W := hKs B1 hK1
  clear hL hKs hJ hKb hp1
  refine callsIn_of_wp Tryz.func247 rfl trivial ?_ rfl
  simp only [Tryz.ntmps247, List.size_toArray, List.length_cons, List.length_nil, Nat.reduceAdd, Nat.reduceSub, Array.replicate_succ, Array.replicate_zero, List.push_toArray, List.append_toArray, List.nil_append, List.cons_append]
  gi_wp2
  gi_loopw [3] (fun tv wr => ∃ (f : Nat) (pre : List (StrS len)), f ≤ len ∧ tv = .int .i64 (f : Nat) ∧ J pre wr ∧ KeepS K W wr ∧ pre.length ≤ f ∧ UpS L f pre) (fun tv _ => len - (intOf tv).toNat)
  case atStart => exact ⟨0, [], by omega, rfl, h0, KeepS.refl _ _, by simp, UpS.zero L⟩
  case round =>
    obtain ⟨f, pre, hf, rfl, hJs, hb, hpl, hpt⟩ := hrel
    have HKO : Hid (KeepS K W wr) := hb
    have HPT : Hid (UpS L f pre) := hpt
    have HJO : Hid (J pre wr) := hJs
    have c0 := HP1.out wr hb
    have hsz0 := hb.size
    clear hb hpt hJs
    by_cases ht0 : f = len
    · have HAC : Hid (AllS L pre) := by
        have := HPT.out
        rw [ht0] at this
        exact this.done HLEN.out
      have hnl : ¬ (f : Int) < (len : Int) := by omega
      clear ht0
      gi_wp2
      go_end0
      exact ⟨⟨_, rfl⟩, .inl ⟨pre, HAC.out, HJO.out⟩⟩
    · have htI : (f : Int) < (len : Int) := by omega
      have htN : f < len := by omega
      obtain rfl := hal (by omega)
      have wt : IntKind.i64.wrap ((f : Int) + 1) = ((f + 1 : Nat) : Int) := by
        have e : ((f + 1 : Nat) : Int) = (f : Int) + 1 := by omega
        rw [e, IntWalk.i64_left]; unfold wrap64; omega
      have hbW := HBW.out (by omega)
      gi_wp2
      clear c0
      gi_loopw [4] (fun fv wq => ∃ up : Nat, f < up ∧ up ≤ len ∧ fv = .int .i64 (up : Nat) ∧ J pre wq ∧ KeepS K W wq ∧ Mg.Asc lessE ((L.drop f).take (up - f))) (fun fv _ => len - (intOf fv).toNat)
      case atStart => exact ⟨f + 1, by omega, by omega, by first | rfl | go_num, HJO.out, HKO.out, asc_one L f⟩
      case round =>
        clear HKO HJO wt
        obtain ⟨up, hft, hto, rfl, hJs, hks, hch⟩ := hrel
        have HKS : Hid (KeepS K W wr) := hks
        have HJR : Hid (J pre wr) := hJs
        have HCH : Hid (Mg.Asc lessE ((L.drop f).take (up - f))) := hch
        clear hks hJs hch
        have hsz := HKS.out.size
        have k0 : Below wr.heap.size wr wr.drew := (Below.refl _ wr).drew
        have c1 := HP1.out wr HKS.out
        by_cases hf0 : up = len
        · have hnl : ¬ (up : Int) < (len : Int) := by omega
          have hnd : decide ((up : Int) < (len : Int)) = false := decide_eq_false hnl
          have hnn : ¬ up < len := by omega
          have hne : decide (up < len) = false := decide_eq_false hnn
          have HUP : Hid (up = len) := hf0
          clear hf0
          have HMK : Hid (∀ w', Below wr.heap.size wr w' → (w'.cell? ⟨B1, 0, none⟩ = some (.slice (some ⟨b, off, none⟩) len cap))) := fun w' kk => cell_later kk c1
          gi_wp2_with fail
          refine wpIn_wide.2 ?_
          refine wp_region_held_drew (S := (fun w' => w'.cell? ⟨B1, 0, none⟩ = some (.slice (some ⟨b, off, none⟩) len cap))) (by kernel_rfl) (HMK.out _ k0) (fun hHeld => ?_)
          refine tkL 0 hHeld ?_; try go_frame
          refine tkL 1 hHeld ?_; try go_frame
          refine tkL 2 hHeld ?_; try go_frame
          refine tkL 3 hHeld ?_; try go_frame
          refine tkL 4 hHeld ?_; try go_frame
          refine tkN 5 hHeld ?_; try go_frame
          refine tkN 6 hHeld ?_; try go_frame
          refine tkN 7 hHeld ?_; try go_frame
          refine tkN 8 hHeld ?_; try go_frame
          refine tkN 9 hHeld ?_; try go_frame
          refine tkN 10 hHeld ?_; try go_frame
          refine tkN 11 hHeld ?_; try go_frame
          refine tkN 12 hHeld ?_; try go_frame
          refine tkN 13 hHeld ?_; try go_frame
          refine wpAnyH_ready (rs := [14]) (by kernel_rfl) (by simp) ?_
          refine consL rfl (fun K hK => ?_) AllReadyH.nil
          go_simp
          refine hK.out _ _ (HMK.out _ k0) (fun hHeld => ?_)
          clear hK K
          try go_frame
          refine tkN 15 hHeld ?_; try go_frame
          refine tkL 16 hHeld ?_; try go_frame
          refine wpAnyH_done (by kernel_rfl) ?_ _
          clear HMK hHeld
          have hK2 : KeepS K wr wr.drew := KeepS.of k0 (fun k hk => Nat.lt_of_lt_of_le (HKZ.out k hk) hsz)
          have HKS2 : Hid (KeepS K W wr.drew) := HKS.out.trans hK2
          have HJ2 : Hid (J pre wr.drew) := HJ.out _ _ _ none HJR.out (grown_none k0) (fun r e => by cases e)
          obtain ⟨w1, hw1⟩ : ∃ w1, w1 = wr.drew := ⟨_, rfl⟩
          rw [← hw1] at HKS2 HJ2 ⊢
          clear hK2 k0 hw1 c1 HKS HJR hnl hnd hnn hne
          have c1 := HP1.out w1 HKS2.out
          have hsz1 := HKS2.out.size
          have HUS : Hid (UpS L up (pre ++ [⟨(f, up), hft, hto⟩])) := HPT.out.step HLEN.out hft hto HCH.out
          have hff : (f : Int) ≤ (up : Int) := by omega
          have hfz : (0 : Int) ≤ (f : Int) := by omega
          have htc : (up : Int) ≤ (cap : Int) := by omega
          have hci : ¬ cap - f = 0 := by omega
          obtain ⟨fn, tmps, assign, body, hy, hR⟩ := hY pre ⟨(f, up), hft, hto⟩ w1 HJ2.out (by omega)
          simp only [encS] at hy
          clear HCH HJ2
          gi_wp2
          refine hR.mono ?_
          rintro e W3 (⟨rfl, hJ3, hk3⟩ | ⟨rfl, hJx3⟩)
          · have HK3 : Hid (KeepS K W W3) := HKS2.out.trans hk3
            have HJ3 : Hid (J (pre ++ [⟨(f, up), hft, hto⟩]) W3) := hJ3
            clear hk3 hJ3
            gi_wp2
            go_roundw
            case rel => exact ⟨up, pre ++ [⟨(f, up), hft, hto⟩], hto, by first | rfl | go_num, HJ3.out, HK3.out, by simp; omega, HUS.out⟩
            case measure => simp [intOf]; omega
          · gi_wp2
            refine bodyPost_ret (results_none rfl _ _ _) rfl ?_
            exact ⟨⟨_, rfl⟩, .inr ⟨_, trivial, hJx3⟩⟩
        · obtain ⟨g, hg⟩ : ∃ g, up = g + 1 := ⟨up - 1, by omega⟩
          have hfI : (up : Int) < (len : Int) := by omega
          have hfd : decide ((up : Int) < (len : Int)) = true := decide_eq_true hfI
          have hfn : up < len := by omega
          have hfe : decide (up < len) = true := decide_eq_true hfn
          have wf : IntKind.i64.wrap ((up : Int) - 1) = (g : Int) := by
            have e : (up : Int) - 1 = (g : Int) := by omega
            rw [e, IntWalk.i64_left]; unfold wrap64; omega
          have hf1L : (g : Int) < (len : Int) := by omega
          obtain ⟨s, q, d, t, m, hx, _, g0, g1, g2, g3, g4⟩ := (HLK.out wr HKS.out).ent (Below.refl _ wr) (by omega) up (by omega)
          obtain ⟨s', q', d', t', m', hy, _, e0, e1, e2, e3, e4⟩ := (HLK.out wr HKS.out).ent (Below.refl _ wr) (by omega) g (by omega)
          have HX : Hid (L[up]? = some (s, q, d, t, m)) := hx
          have HY : Hid (L[g]? = some (s', q', d', t', m')) := hy
          have HFG : Hid (up = g + 1) := hg
          clear hg hf0
          have zb : b < wr.heap.size := by omega
          have HMK : Hid (∀ w', Below wr.heap.size wr w' → (w'.cell? ⟨B1, 0, none⟩ = some (.slice (some ⟨b, off, none⟩) len cap) ∧ w'.cell? ⟨b, off + up * 5, none⟩ = some (.string s) ∧ w'.cell? ⟨b, off + up * 5 + 1, none⟩ = some (.int .i64 q) ∧ w'.cell? ⟨b, off + up * 5 + 2, none⟩ = some (.int .i64 d) ∧ w'.cell? ⟨b, off + up * 5 + 3, none⟩ = some (.string t) ∧ w'.cell? ⟨b, off + up * 5 + 4, none⟩ = some (.int .i64 m) ∧ w'.cell? ⟨b, off + g * 5, none⟩ = some (.string s') ∧ w'.cell? ⟨b, off + g * 5 + 1, none⟩ = some (.int .i64 q') ∧ w'.cell? ⟨b, off + g * 5 + 2, none⟩ = some (.int .i64 d') ∧ w'.cell? ⟨b, off + g * 5 + 3, none⟩ = some (.string t') ∧ w'.cell? ⟨b, off + g * 5 + 4, none⟩ = some (.int .i64 m') ∧ b < w'.heap.size)) := fun w' kk => ⟨cell_later kk c1, cell_later kk g0, cell_later kk g1, cell_later kk g2, cell_later kk g3, cell_later kk g4, cell_later kk e0, cell_later kk e1, cell_later kk e2, cell_later kk e3, cell_later kk e4, Nat.lt_of_lt_of_le zb kk.size⟩
          clear hx hy g0 g1 g2 g3 g4 e0 e1 e2 e3 e4 c1
          cases hap : lessB s q s' q' with
          | false =>
            gi_wp2_with fail
            refine wpIn_wide.2 ?_
            refine wp_region_held_drew (S := (fun w' => w'.cell? ⟨B1, 0, none⟩ = some (.slice (some ⟨b, off, none⟩) len cap) ∧ w'.cell? ⟨b, off + up * 5, none⟩ = some (.string s) ∧ w'.cell? ⟨b, off + up * 5 + 1, none⟩ = some (.int .i64 q) ∧ w'.cell? ⟨b, off + up * 5 + 2, none⟩ = some (.int .i64 d) ∧ w'.cell? ⟨b, off + up * 5 + 3, none⟩ = some (.string t) ∧ w'.cell? ⟨b, off + up * 5 + 4, none⟩ = some (.int .i64 m) ∧ w'.cell? ⟨b, off + g * 5, none⟩ = some (.string s') ∧ w'.cell? ⟨b, off + g * 5 + 1, none⟩ = some (.int .i64 q') ∧ w'.cell? ⟨b, off + g * 5 + 2, none⟩ = some (.int .i64 d') ∧ w'.cell? ⟨b, off + g * 5 + 3, none⟩ = some (.string t') ∧ w'.cell? ⟨b, off + g * 5 + 4, none⟩ = some (.int .i64 m') ∧ b < w'.heap.size)) (by kernel_rfl) (HMK.out _ k0) (fun hHeld => ?_)
            refine tkL 0 hHeld ?_; try go_frame
            refine tkL 1 hHeld ?_; try go_frame
            refine tkL 2 hHeld ?_; try go_frame
            refine tkL 3 hHeld ?_; try go_frame
            refine tkL 4 hHeld ?_; try go_frame
            refine tkL 5 hHeld ?_; try go_frame
            refine tkL 6 hHeld ?_; try go_frame
            refine tkL 7 hHeld ?_; try go_frame
            refine tkL 8 hHeld ?_; try go_frame
            refine tkL 9 hHeld ?_; try go_frame
            refine tkL 10 hHeld ?_; try go_frame
            refine tkL 11 hHeld ?_; try go_frame
            refine tkL 12 hHeld ?_; try go_frame
            refine tkL 13 hHeld ?_; try go_frame
            refine wpAnyH_ready (rs := [14]) (by kernel_rfl) (by simp) ?_
            refine consL rfl (fun K hK => ?_) AllReadyH.nil
            go_simp
            refine (implLess s t s' t' q d m q' d' m' _).mono ?_
            rintro e w1 ⟨rfl, b1⟩
            have k1 : Below wr.heap.size wr w1 := k0.trans (b1.mono k0.size)
            go_wp2_with fail
            refine hK.out _ _ (HMK.out _ k1) (fun hHeld => ?_)
            clear hK K
            try go_frame
            refine tkL 15 hHeld ?_; try go_frame
            refine tkL 16 hHeld ?_; try go_frame
            refine wpAnyH_done (by kernel_rfl) ?_ _
            clear HMK hHeld
            have hK2 : KeepS K wr w1 := KeepS.of k1 (fun k hk => Nat.lt_of_lt_of_le (HKZ.out k hk) hsz)
            have HKS2 : Hid (KeepS K W w1) := HKS.out.trans hK2
            have HJ2 : Hid (J pre w1) := HJ.out _ _ _ none HJR.out (grown_none k1) (fun r e => by cases e)
            have wu : IntKind.i64.wrap ((up : Int) + 1) = ((up + 1 : Nat) : Int) := by
              have e : ((up + 1 : Nat) : Int) = (up : Int) + 1 := by omega
              rw [e, IntWalk.i64_left]; unfold wrap64; omega
            clear hK2 k0 k1 b1 HKS HJR
            gi_wp2
            go_roundw
            case rel =>
              have hfg := HFG.out
              exact ⟨up + 1, by omega, by omega, by first | rfl | go_num, HJ2.out, HKS2.out, asc_more hft (x := (s', q', d', t', m')) (by rw [show up - 1 = g by omega]; exact HY.out) HX.out HCH.out hap⟩
            case measure => simp [intOf]; omega
          | true =>
            gi_wp2_with fail
            refine wpIn_wide.2 ?_
            refine wp_region_held_drew (S := (fun w' => w'.cell? ⟨B1, 0, none⟩ = some (.slice (some ⟨b, off, none⟩) len cap) ∧ w'.cell? ⟨b, off + up * 5, none⟩ = some (.string s) ∧ w'.cell? ⟨b, off + up * 5 + 1, none⟩ = some (.int .i64 q) ∧ w'.cell? ⟨b, off + up * 5 + 2, none⟩ = some (.int .i64 d) ∧ w'.cell? ⟨b, off + up * 5 + 3, none⟩ = some (.string t) ∧ w'.cell? ⟨b, off + up * 5 + 4, none⟩ = some (.int .i64 m) ∧ w'.cell? ⟨b, off + g * 5, none⟩ = some (.string s') ∧ w'.cell? ⟨b, off + g * 5 + 1, none⟩ = some (.int .i64 q') ∧ w'.cell? ⟨b, off + g * 5 + 2, none⟩ = some (.int .i64 d') ∧ w'.cell? ⟨b, off + g * 5 + 3, none⟩ = some (.string t') ∧ w'.cell? ⟨b, off + g * 5 + 4, none⟩ = some (.int .i64 m') ∧ b < w'.heap.size)) (by kernel_rfl) (HMK.out _ k0) (fun hHeld => ?_)
            refine tkL 0 hHeld ?_; try go_frame
            refine tkL 1 hHeld ?_; try go_frame
            refine tkL 2 hHeld ?_; try go_frame
            refine tkL 3 hHeld ?_; try go_frame
            refine tkL 4 hHeld ?_; try go_frame
            refine tkL 5 hHeld ?_; try go_frame
            refine tkL 6 hHeld ?_; try go_frame
            refine tkL 7 hHeld ?_; try go_frame
            refine tkL 8 hHeld ?_; try go_frame
            refine tkL 9 hHeld ?_; try go_frame
            refine tkL 10 hHeld ?_; try go_frame
            refine tkL 11 hHeld ?_; try go_frame
            refine tkL 12 hHeld ?_; try go_frame
            refine tkL 13 hHeld ?_; try go_frame
            refine wpAnyH_ready (rs := [14]) (by kernel_rfl) (by simp) ?_
            refine consL rfl (fun K hK => ?_) AllReadyH.nil
            go_simp
            refine (implLess s t s' t' q d m q' d' m' _).mono ?_
            rintro e w1 ⟨rfl, b1⟩
            have k1 : Below wr.heap.size wr w1 := k0.trans (b1.mono k0.size)
            go_wp2_with fail
            refine hK.out _ _ (HMK.out _ k1) (fun hHeld => ?_)
            clear hK K
            try go_frame
            refine tkL 15 hHeld ?_; try go_frame
            refine tkL 16 hHeld ?_; try go_frame
            refine wpAnyH_done (by kernel_rfl) ?_ _
            clear HMK hHeld
            have hK2 : KeepS K wr w1 := KeepS.of k1 (fun k hk => Nat.lt_of_lt_of_le (HKZ.out k hk) hsz)
            have HKS2 : Hid (KeepS K W w1) := HKS.out.trans hK2
            have HJ2 : Hid (J pre w1) := HJ.out _ _ _ none HJR.out (grown_none k1) (fun r e => by cases e)
            clear hK2 k0 k1 b1 HKS HJR HX HY hap hfd hfe
            have c1 := HP1.out w1 HKS2.out
            have hsz1 := HKS2.out.size
            have HUS : Hid (UpS L up (pre ++ [⟨(f, up), hft, hto⟩])) := HPT.out.step HLEN.out hft hto HCH.out
            have hff : (f : Int) ≤ (up : Int) := by omega
            have hfz : (0 : Int) ≤ (f : Int) := by omega
            have htc : (up : Int) ≤ (cap : Int) := by omega
            have hci : ¬ cap - f = 0 := by omega
            obtain ⟨fn, tmps, assign, body, hy, hR⟩ := hY pre ⟨(f, up), hft, hto⟩ w1 HJ2.out (by omega)
            simp only [encS] at hy
            clear HCH HJ2
            gi_wp2
            refine hR.mono ?_
            rintro e W3 (⟨rfl, hJ3, hk3⟩ | ⟨rfl, hJx3⟩)
            · have HK3 : Hid (KeepS K W W3) := HKS2.out.trans hk3
              have HJ3 : Hid (J (pre ++ [⟨(f, up), hft, hto⟩]) W3) := hJ3
              clear hk3 hJ3
              gi_wp2
              go_roundw
              case rel => exact ⟨up, pre ++ [⟨(f, up), hft, hto⟩], hto, by first | rfl | go_num, HJ3.out, HK3.out, by simp; omega, HUS.out⟩
              case measure => simp [intOf]; omega
            · gi_wp2
              refine bodyPost_ret (results_none rfl _ _ _) rfl ?_
              exact ⟨⟨_, rfl⟩, .inr ⟨_, trivial, hJx3⟩⟩
theorem stretch_stops (n B1 : Nat) (K : Nat → Prop) (hn : 2 ≤ n) (b off : Nat) (al : Option Addr) (len cap : Nat) (hal : 1 ≤ len → al = some ⟨b, off, none⟩) (L : List EntD) (w : World)
    (hK1 : K B1) (hKb : 1 ≤ len → K b) (hKs : ∀ k, K k → k < w.heap.size)
    (hp1 : w.cell? ⟨B1, 0, none⟩ = some (.slice al len cap)) (hL : EntsAt w al len cap L) (hlen : len ≤ 1048576) :
    SeqStopsK Fence.wide n Tryz.prog 247 #[.pointer (some ⟨B1, 0, none⟩)] (fun x : StrS len => encS b off cap x) (KeepS K) (fun ys => AllS L ys) (fun _ => True) len w :=
  fun l J Jx W hW hJ _ hY h0 => stretch1_in n l B1 K hn b off al len cap hal L J Jx W hY hJ hK1 hKb (fun k hk => Nat.lt_of_lt_of_le (hKs k hk) hW.size) (cell_later hW hp1) (hL.keep hW) hlen h0
theorem stretchesOf_in (n : Nat) (al : Option Addr) (len cap : Nat) (w : World) :
    CallsIn Fence.wide n Tryz.prog 202 #[.slice al len cap] w fun e w' => e = .returned (.func (.func 247) #[] #[.pointer (some ⟨w.heap.size, 0, none⟩)]) ∧ w' = w.alloc (.cells #[.slice al len cap] 33) := by
  refine callsIn_of_wp Tryz.func202 rfl trivial ?_ rfl
  simp only [Tryz.ntmps202, List.size_toArray, List.length_cons, List.length_nil, Nat.reduceAdd, Nat.reduceSub, Array.replicate_succ, Array.replicate_zero, List.push_toArray, List.append_toArray, List.nil_append, List.cons_append]
  gi_wp2
  go_ret
  exact ⟨rfl, rfl⟩
end Go.Proofs.YtapjkbpfhmbfaaaGreatDoor
