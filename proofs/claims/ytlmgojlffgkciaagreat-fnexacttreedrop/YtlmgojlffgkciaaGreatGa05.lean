/-
  The laws' copy of a tree, by a walk of its Go text; boxes of four cells.
  Contracts of the library's strings package at this program, laid by the kit's own command.
  The program's cloneEntries: the same entries in memory of their own, by a walk of its Go text.
  Rows that are appended to, and a step law for append in a region that draws its order; no statement of the program stands here.
  What the program's asTree and TreeNew make: a tree of nothing, by walks of their Go text.
  The program's cloneRuns: runs in memory of their own; by a walk of its Go text.
  An array's elements by their places.
  What the program's asTree makes of any tree: the same in new memory; by a walk of its Go text.
  The program's cloneRuns, with whose memory the copies lie in; by a walk of its Go text.
-/
import Derived.Test.YtlmgojlffgkciaaGreatGa04
import Derived.Shelf.LaysM
import Derived.Shelf.Strconv.Clone
import Derived.Test.YtlmgojlffgkciaaGreatProg
import Derived.Test.YtlmgojlffgkciaaGreatGa01
import Derived.Test.YtlmgojlffgkciaaGreatGa02
import Derived.Deep.RegionLaw
import Derived.Deep.DeepCutAuto
import Derived.Deep.LoopGhost
import Derived.Laws.CopyOwn
import Derived.Deep.RegionWith
import Derived.Laws.IdiomCopy
import Derived.Test.YtlmgojlffgkciaaGreatGa03
namespace Go.Proofs.YtlmgojlffgkciaaGreat
open Go.RowKit
structure Box4 (w : World) (b : Nat) (u0 u1 u2 u3 : Value) : Prop where
  c0 : w.cell? ⟨b, 0, none⟩ = some u0
  c1 : w.cell? ⟨b, 1, none⟩ = some u1
  c2 : w.cell? ⟨b, 2, none⟩ = some u2
  c3 : w.cell? ⟨b, 3, none⟩ = some u3
  fz : ∀ o, w.frozen? ⟨b, o, none⟩ = false
theorem Box4.lt {w : World} {b : Nat} {u0 u1 u2 u3 : Value} (h : Box4 w b u0 u1 u2 u3) : b < w.heap.size := World.block_lt_of_cell? w _ h.c0
theorem Box4.new (w : World) (t : TypeId) (u0 u1 u2 u3 : Value) : Box4 (w.alloc (.cells #[u0, u1, u2, u3] t)) w.heap.size u0 u1 u2 u3 := ⟨by simp, by simp, by simp, by simp, fun o => by simp⟩
theorem Box4.below {B : Nat} {w w' : World} {b : Nat} {u0 u1 u2 u3 : Value} (h : Box4 w b u0 u1 u2 u3) (hb : Below B w w') (hB : b < B) : Box4 w' b u0 u1 u2 u3 :=
  ⟨(hb.cell (p := ⟨b, 0, none⟩) hB).trans h.c0, (hb.cell (p := ⟨b, 1, none⟩) hB).trans h.c1, (hb.cell (p := ⟨b, 2, none⟩) hB).trans h.c2, (hb.cell (p := ⟨b, 3, none⟩) hB).trans h.c3, fun o => (hb.frozen (p := ⟨b, o, none⟩) hB).trans (h.fz o)⟩
theorem Box4.keep {w w' : World} {b : Nat} {u0 u1 u2 u3 : Value} (h : Box4 w b u0 u1 u2 u3) (hb : Below w.heap.size w w') : Box4 w' b u0 u1 u2 u3 := h.below hb h.lt
theorem Box4.alloc {w : World} {b : Nat} {u0 u1 u2 u3 : Value} (h : Box4 w b u0 u1 u2 u3) (o : Obj) : Box4 (w.alloc o) b u0 u1 u2 u3 := h.keep ((Below.refl _ _).alloc (Nat.le_refl _) _)
theorem cell_elsewhere {w : World} {b o b' o' : Nat} (x : Value) (h : ¬ (b = b' ∧ o = o')) : (w.setCell ⟨b', o', none⟩ x).cell? ⟨b, o, none⟩ = w.cell? ⟨b, o, none⟩ :=
  World.cell?_setCell_other _ _ _ _ (fun e => h (by cases e; exact ⟨rfl, rfl⟩))
theorem Box4.other {w : World} {b : Nat} {u0 u1 u2 u3 : Value} (h : Box4 w b u0 u1 u2 u3) {b' o : Nat} (hp : b' ≠ b) (x : Value) : Box4 (w.setCell ⟨b', o, none⟩ x) b u0 u1 u2 u3 :=
  ⟨(cell_elsewhere x (fun e => hp e.1.symm)).trans h.c0, (cell_elsewhere x (fun e => hp e.1.symm)).trans h.c1, (cell_elsewhere x (fun e => hp e.1.symm)).trans h.c2, (cell_elsewhere x (fun e => hp e.1.symm)).trans h.c3, fun o => by rw [World.frozen?_setCell]; exact h.fz o⟩
theorem Box4.set0 {w : World} {b : Nat} {u0 u1 u2 u3 : Value} (h : Box4 w b u0 u1 u2 u3) (x : Value) : Box4 (w.setCell ⟨b, 0, none⟩ x) b x u1 u2 u3 :=
  ⟨World.cell?_setCell_same' _ _ _ (by rw [h.c0]; rfl), (cell_elsewhere x (by simp)).trans h.c1, (cell_elsewhere x (by simp)).trans h.c2, (cell_elsewhere x (by simp)).trans h.c3, fun o => by rw [World.frozen?_setCell]; exact h.fz o⟩
theorem Box4.set1 {w : World} {b : Nat} {u0 u1 u2 u3 : Value} (h : Box4 w b u0 u1 u2 u3) (x : Value) : Box4 (w.setCell ⟨b, 1, none⟩ x) b u0 x u2 u3 :=
  ⟨(cell_elsewhere x (by simp)).trans h.c0, World.cell?_setCell_same' _ _ _ (by rw [h.c1]; rfl), (cell_elsewhere x (by simp)).trans h.c2, (cell_elsewhere x (by simp)).trans h.c3, fun o => by rw [World.frozen?_setCell]; exact h.fz o⟩
theorem Box4.set2 {w : World} {b : Nat} {u0 u1 u2 u3 : Value} (h : Box4 w b u0 u1 u2 u3) (x : Value) : Box4 (w.setCell ⟨b, 2, none⟩ x) b u0 u1 x u3 :=
  ⟨(cell_elsewhere x (by simp)).trans h.c0, (cell_elsewhere x (by simp)).trans h.c1, World.cell?_setCell_same' _ _ _ (by rw [h.c2]; rfl), (cell_elsewhere x (by simp)).trans h.c3, fun o => by rw [World.frozen?_setCell]; exact h.fz o⟩
theorem Box4.set3 {w : World} {b : Nat} {u0 u1 u2 u3 : Value} (h : Box4 w b u0 u1 u2 u3) (x : Value) : Box4 (w.setCell ⟨b, 3, none⟩ x) b u0 u1 u2 x :=
  ⟨(cell_elsewhere x (by simp)).trans h.c0, (cell_elsewhere x (by simp)).trans h.c1, (cell_elsewhere x (by simp)).trans h.c2, World.cell?_setCell_same' _ _ _ (by rw [h.c3]; rfl), fun o => by rw [World.frozen?_setCell]; exact h.fz o⟩
def ToR (q : Int) (nm nv ns : Nat) (M : List EntD) (V : List (List RunD)) (S : List Int) (w : World) (e : Ending) (w' : World) : Prop :=
  ∃ b1 b2 b3 : Nat, e = .returned (.agg #[.int .i64 q, .slice (some ⟨b1, 0, none⟩) nm nm, .slice (some ⟨b2, 0, none⟩) nv nv, .slice (some ⟨b3, 0, none⟩) ns ns]) ∧ TreeIn w.heap.size w' (some ⟨b1, 0, none⟩) nm nm (some ⟨b2, 0, none⟩) nv nv (some ⟨b3, 0, none⟩) ns ns M V S ∧ Below w.heap.size w w'
set_option maxHeartbeats 1600000 in
theorem toTree_any (q : Int) (lo : Nat) (am av ak : Option Addr) (nm cm nv cv ns cs : Nat) (M : List EntD) (V : List (List RunD)) (S : List Int) (w : World) (h : TreeIn lo w am nm cm av nv cv ak ns cs M V S) (hs : SmallT M V S) :
    Calls Tryz.prog 12 #[.agg #[.int .i64 q, .slice am nm cm, .slice av nv cv, .slice ak ns cs]] w (ToR q nm nv ns M V S w) := by
  obtain ⟨X, hX⟩ : ∃ X, X = w.heap.size := ⟨_, rfl⟩
  obtain ⟨W, hW⟩ : ∃ W, W = ((w.alloc (.cells #[.int .i64 q, .slice am nm cm, .slice av nv cv, .slice ak ns cs] 26)).alloc (.cells #[.int .i64 0, .slice none 0 0, .slice none 0 0, .slice none 0 0] 31)).alloc (.cells #[.int .i64 q, .slice none 0 0, .slice none 0 0, .slice none 0 0] 31) := ⟨_, rfl⟩
  have kW : Below w.heap.size w W := by rw [hW]; exact (((Below.refl _ _).alloc (Nat.le_refl _) _).alloc (by simp) _).alloc (by simp; omega) _
  have bp : Box4 W X (.int .i64 q) (.slice am nm cm) (.slice av nv cv) (.slice ak ns cs) := by rw [hW, hX]; exact ((Box4.new _ _ _ _ _ _).alloc _).alloc _
  have br : Box4 W (X + 1) (.int .i64 0) (.slice none 0 0) (.slice none 0 0) (.slice none 0 0) := by
    have := (Box4.new (w.alloc (.cells #[.int .i64 q, .slice am nm cm, .slice av nv cv, .slice ak ns cs] 26)) 31 (.int .i64 0) (.slice none 0 0) (.slice none 0 0) (.slice none 0 0)).alloc (.cells #[.int .i64 q, .slice none 0 0, .slice none 0 0, .slice none 0 0] 31)
    rw [World.size_alloc] at this
    rw [hW, hX]
    exact this
  have bo : Box4 W (X + 1 + 1) (.int .i64 q) (.slice none 0 0) (.slice none 0 0) (.slice none 0 0) := by
    have := Box4.new ((w.alloc (.cells #[.int .i64 q, .slice am nm cm, .slice av nv cv, .slice ak ns cs] 26)).alloc (.cells #[.int .i64 0, .slice none 0 0, .slice none 0 0, .slice none 0 0] 31)) 31 (.int .i64 q) (.slice none 0 0) (.slice none 0 0) (.slice none 0 0)
    rw [World.size_alloc, World.size_alloc] at this
    rw [hW, hX]
    exact this
  have hsz : W.heap.size = X + 1 + 1 + 1 := by rw [hW, hX]; simp
  have H : Hid (TreeIn lo w am nm cm av nv cv ak ns cs M V S) := h
  have HS : Hid (SmallT M V S) := hs
  have hnm : nm ≤ 1048576 := by have := h.mem.1.length; have := hs.1; omega
  have hns : ns ≤ 1048576 := by have := h.snaps.length; have := hs.2.2; omega
  have HX : Hid (X = w.heap.size) := hX
  have HK : Hid (Below w.heap.size w W) := kW
  clear h hs kW
  go_enter Tryz.func12, Tryz.ntmps12
  go_wp2_with fail
  rw [← hX, ← hW]
  clear hX hW
  refine (toEntS_any _ _ _ M _ (H.out.keep HK.out).mem.1 hnm).mono ?_
  rintro e w1 ⟨rfl, hE1, _, hb1⟩
  obtain ⟨b1, hbe1⟩ : ∃ b1, b1 = W.heap.size := ⟨_, rfl⟩
  rw [← hbe1] at hE1 ⊢
  obtain ⟨W1, hW1⟩ : ∃ W1, W1 = w1.setCell ⟨X + 1 + 1, 1, none⟩ (.slice (some ⟨b1, 0, none⟩) nm nm) := ⟨_, rfl⟩
  have bo1 : Box4 W1 (X + 1 + 1) (.int .i64 q) (.slice (some ⟨b1, 0, none⟩) nm nm) (.slice none 0 0) (.slice none 0 0) := by rw [hW1]; exact (bo.keep hb1).set1 _
  have bp1 : Box4 W1 X (.int .i64 q) (.slice am nm cm) (.slice av nv cv) (.slice ak ns cs) := by rw [hW1]; exact (bp.keep hb1).other (by omega) _
  have br1 : Box4 W1 (X + 1) (.int .i64 0) (.slice none 0 0) (.slice none 0 0) (.slice none 0 0) := by rw [hW1]; exact (br.keep hb1).other (by omega) _
  have K1 : Hid (Below w.heap.size w W1) := by rw [hW1]; exact (HK.out.trans (hb1.mono HK.out.size)).setCell (p := ⟨X + 1 + 1, 1, none⟩) (by show w.heap.size ≤ X + 1 + 1; have := HX.out; omega) _
  have S1 : Hid (Same (X + 3) W W1) := by rw [hW1]; exact (Same.of_below hb1).trans (Same.of_set _ _ (by show X + 1 + 1 < X + 3; omega))
  have hsz1 : X + 3 ≤ W1.heap.size := by have := S1.out.1; omega
  have E1 : Hid (EntsIn (X + 3) W1 (some ⟨b1, 0, none⟩) nm nm M) := by rw [hW1]; exact EntsIn.same ⟨hE1, fun x e _ => by cases e; show X + 3 ≤ b1; omega⟩ (Same.of_set _ _ (by show X + 1 + 1 < X + 3; omega))
  have vo := (bo.keep hb1).c1
  have vf := (bo.keep hb1).fz
  have vp := (bp.keep hb1).c2
  have vz := (bo.keep hb1).lt
  have vz' : X < w1.heap.size := by omega
  clear hb1 bo bp br hE1 hbe1
  go_wp2_with fail
  rw [← hW1]
  clear hW1 vo vf vp vz vz'
  refine (toRunSS_any lo _ _ _ V _ (H.out.keep K1.out).levels HS.out.2.1).mono ?_
  rintro e w2 ⟨rfl, hE2, _, hb2⟩
  obtain ⟨b2, hbe2⟩ : ∃ b2, b2 = W1.heap.size := ⟨_, rfl⟩
  rw [← hbe2] at hE2 ⊢
  obtain ⟨W2, hW2⟩ : ∃ W2, W2 = w2.setCell ⟨X + 1 + 1, 2, none⟩ (.slice (some ⟨b2, 0, none⟩) nv nv) := ⟨_, rfl⟩
  have bo2 : Box4 W2 (X + 1 + 1) (.int .i64 q) (.slice (some ⟨b1, 0, none⟩) nm nm) (.slice (some ⟨b2, 0, none⟩) nv nv) (.slice none 0 0) := by rw [hW2]; exact (bo1.keep hb2).set2 _
  have bp2 : Box4 W2 X (.int .i64 q) (.slice am nm cm) (.slice av nv cv) (.slice ak ns cs) := by rw [hW2]; exact (bp1.keep hb2).other (by omega) _
  have br2 : Box4 W2 (X + 1) (.int .i64 0) (.slice none 0 0) (.slice none 0 0) (.slice none 0 0) := by rw [hW2]; exact (br1.keep hb2).other (by omega) _
  have K2 : Hid (Below w.heap.size w W2) := by rw [hW2]; exact (K1.out.trans (hb2.mono K1.out.size)).setCell (p := ⟨X + 1 + 1, 2, none⟩) (by show w.heap.size ≤ X + 1 + 1; have := HX.out; omega) _
  have S2 : Hid (Same (X + 3) W1 W2) := by rw [hW2]; exact (Same.of_below hb2).trans (Same.of_set _ _ (by show X + 1 + 1 < X + 3; omega))
  have hsz2 : X + 3 ≤ W2.heap.size := by have := S2.out.1; omega
  have E2 : Hid (LevelsIn (X + 3) W2 (some ⟨b2, 0, none⟩) nv nv V) := by rw [hW2]; exact LevelsIn.same (hE2.mono (by omega)) (Same.of_set _ _ (by show X + 1 + 1 < X + 3; omega))
  have E1 : Hid (EntsIn (X + 3) W2 (some ⟨b1, 0, none⟩) nm nm M) := E1.out.same S2.out
  have vo := (bo1.keep hb2).c2
  have vf := (bo1.keep hb2).fz
  have vp := (bp1.keep hb2).c3
  have vz := (bo1.keep hb2).lt
  have vz' : X < w2.heap.size := by omega
  clear hb2 bo1 bp1 br1 hE2 hbe2
  go_wp2_with fail
  rw [← hW2]
  clear hW2 vo vf vp vz vz'
  refine (toIntS_any lo _ _ _ S _ (H.out.keep K2.out).snaps hns).mono ?_
  rintro e w3 ⟨rfl, hE3, _, hb3⟩
  obtain ⟨b3, hbe3⟩ : ∃ b3, b3 = W2.heap.size := ⟨_, rfl⟩
  rw [← hbe3] at hE3 ⊢
  obtain ⟨W3, hW3⟩ : ∃ W3, W3 = w3.setCell ⟨X + 1 + 1, 3, none⟩ (.slice (some ⟨b3, 0, none⟩) ns ns) := ⟨_, rfl⟩
  have bo3 : Box4 W3 (X + 1 + 1) (.int .i64 q) (.slice (some ⟨b1, 0, none⟩) nm nm) (.slice (some ⟨b2, 0, none⟩) nv nv) (.slice (some ⟨b3, 0, none⟩) ns ns) := by rw [hW3]; exact (bo2.keep hb3).set3 _
  have bp3 : Box4 W3 X (.int .i64 q) (.slice am nm cm) (.slice av nv cv) (.slice ak ns cs) := by rw [hW3]; exact (bp2.keep hb3).other (by omega) _
  have br3 : Box4 W3 (X + 1) (.int .i64 0) (.slice none 0 0) (.slice none 0 0) (.slice none 0 0) := by rw [hW3]; exact (br2.keep hb3).other (by omega) _
  have K3 : Hid (Below w.heap.size w W3) := by rw [hW3]; exact (K2.out.trans (hb3.mono K2.out.size)).setCell (p := ⟨X + 1 + 1, 3, none⟩) (by show w.heap.size ≤ X + 1 + 1; have := HX.out; omega) _
  have S3 : Hid (Same (X + 3) W2 W3) := by rw [hW3]; exact (Same.of_below hb3).trans (Same.of_set _ _ (by show X + 1 + 1 < X + 3; omega))
  have hsz3 : X + 3 ≤ W3.heap.size := by have := S3.out.1; omega
  have E3 : Hid (IntsIn (X + 3) W3 (some ⟨b3, 0, none⟩) ns ns S) := by rw [hW3]; exact IntsIn.same (hE3.lower (by omega)) (Same.of_set _ _ (by show X + 1 + 1 < X + 3; omega))
  have E1 : Hid (EntsIn (X + 3) W3 (some ⟨b1, 0, none⟩) nm nm M) := E1.out.same S3.out
  have E2 : Hid (LevelsIn (X + 3) W3 (some ⟨b2, 0, none⟩) nv nv V) := E2.out.same S3.out
  have vo := (bo2.keep hb3).c3
  have vo0 := (bo2.keep hb3).c0
  have vo1 := (bo2.keep hb3).c1
  have vo2 := (bo2.keep hb3).c2
  have vf := (bo2.keep hb3).fz
  have vr0 := (br2.keep hb3).c0
  have vr1 := (br2.keep hb3).c1
  have vr2 := (br2.keep hb3).c2
  have vr3 := (br2.keep hb3).c3
  have vrf := (br2.keep hb3).fz
  have vz := (bo2.keep hb3).lt
  have vz' : X + 1 < w3.heap.size := by omega
  clear hb3 bo2 bp2 br2 hE3 hbe3
  go_wp2
  rw [← hW3]
  refine bodyPost_ret (v := .agg #[.int .i64 q, .slice (some ⟨b1, 0, none⟩) nm nm, .slice (some ⟨b2, 0, none⟩) nv nv, .slice (some ⟨b3, 0, none⟩) ns ns]) ?_ rfl ⟨b1, b2, b3, rfl, ?_, ?_⟩
  · have c0 := (((br3.set0 (.int .i64 q)).set1 (.slice (some ⟨b1, 0, none⟩) nm nm)).set2 (.slice (some ⟨b2, 0, none⟩) nv nv)).set3 (.slice (some ⟨b3, 0, none⟩) ns ns)
    simp [results, Tryz.results12, go_sem, c0.c0, c0.c1, c0.c2, c0.c3]
  · have hm : Same (X + 3) W3 ((((W3.setCell ⟨X + 1, 0, none⟩ (.int .i64 q)).setCell ⟨X + 1, 1, none⟩ (.slice (some ⟨b1, 0, none⟩) nm nm)).setCell ⟨X + 1, 2, none⟩ (.slice (some ⟨b2, 0, none⟩) nv nv)).setCell ⟨X + 1, 3, none⟩ (.slice (some ⟨b3, 0, none⟩) ns ns)) := (((Same.of_set _ _ (by show X + 1 < X + 3; omega)).trans (Same.of_set _ _ (by show X + 1 < X + 3; omega))).trans (Same.of_set _ _ (by show X + 1 < X + 3; omega))).trans (Same.of_set _ _ (by show X + 1 < X + 3; omega))
    have hx := HX.out
    exact ⟨(E1.out.same hm).mono (by omega), (E2.out.same hm).mono (by omega), (E3.out.same hm).lower (by omega)⟩
  · have hx : w.heap.size ≤ X + 1 := by have := HX.out; omega
    exact (((K3.out.setCell (p := ⟨X + 1, 0, none⟩) hx _).setCell (p := ⟨X + 1, 1, none⟩) hx _).setCell (p := ⟨X + 1, 2, none⟩) hx _).setCell (p := ⟨X + 1, 3, none⟩) hx _
end Go.Proofs.YtlmgojlffgkciaaGreat

namespace Go.Proofs.YtlmgojlffgkciaaGreat
open Go.Shelf
def Tryz.laysM316_ren : Go.Shelf.Ren := ⟨fun | 316 => 192 | n => n, fun | 9 => 9 | 3 => 3 | 4 => 4 | 37 => 114 | 0 => 0 | 127 => 240 | 5 => 5 | n => n, fun | n => n⟩
theorem Tryz.laysM316 : Go.Proofs.LaysM.n316 Tryz.prog Tryz.laysM316_ren := {
  mixed := by kernel_rfl
  f316 := Tryz.func192.trans (congrArg some (by kernel_rfl))
  t0 := Tryz.underlying0
  a0 := Tryz.isAgg0
  z0 := Tryz.sizeOf0
  v0 := Tryz.zeroValue0
  t3 := Tryz.underlying3
  a3 := Tryz.isAgg3
  z3 := Tryz.sizeOf3
  v3 := Tryz.zeroValue3
  t4 := Tryz.underlying4
  a4 := Tryz.isAgg4
  z4 := Tryz.sizeOf4
  v4 := Tryz.zeroValue4
  t9 := Tryz.underlying9
  a9 := Tryz.isAgg9
  z9 := Tryz.sizeOf9
  v9 := Tryz.zeroValue9
  t37 := Tryz.underlying114
  a37 := Tryz.isAgg114
  z37 := Tryz.sizeOf114
  v37 := Tryz.zeroValue114
  t127 := Tryz.underlying240
  a127 := Tryz.isAgg240
  z127 := Tryz.sizeOf240
  v127 := Tryz.zeroValue240
  t5 := Tryz.underlying5
  a5 := Tryz.isAgg5
  z5 := Tryz.sizeOf5
  v5 := Tryz.zeroValue5
  i0 := by kernel_rfl
  i3 := by kernel_rfl
  i4 := by kernel_rfl
  i5 := by kernel_rfl
  i9 := by kernel_rfl
  i37 := by kernel_rfl
  i127 := by kernel_rfl }
open Go.RowKit in
theorem Tryz.stringslite_Clone (s : ByteArray) (w : World) (hlim : s.size ≤ 281474976710656) :
    Calls Tryz.prog 192 #[.string s] w fun e w' => e = .returned (.string s) ∧ Below w.heap.size w w' := Any.stringslite_Clone Tryz.laysM316 s w hlim
end Go.Proofs.YtlmgojlffgkciaaGreat

namespace Go.Proofs.YtlmgojlffgkciaaGreat
open Go.RowKit
set_option maxRecDepth 100000
set_option maxHeartbeats 2000000
theorem strClone (s : ByteArray) (w : World) (h : s.size ≤ 281474976710656) :
    Calls Tryz.prog 163 #[.string s] w fun e w' => e = .returned (.string s) ∧ Below w.heap.size w w' := by
  go_enter Tryz.func163, Tryz.ntmps163
  go_wp2_with fail
  refine (Tryz.stringslite_Clone s _ h).mono ?_
  rintro e w1 ⟨rfl, hb1⟩
  go_wp2
  go_ret
  exact ⟨rfl, hb1⟩
structure BoxE (w0 w : World) (X : Nat) (s t : ByteArray) (q d n : Int) : Prop where
  low : Below X w0 w
  c0 : w.cell? ⟨X, 0, none⟩ = some (.string s)
  c1 : w.cell? ⟨X, 1, none⟩ = some (.int .i64 q)
  c2 : w.cell? ⟨X, 2, none⟩ = some (.int .i64 d)
  c3 : w.cell? ⟨X, 3, none⟩ = some (.string t)
  c4 : w.cell? ⟨X, 4, none⟩ = some (.int .i64 n)
  fr : ∀ o, w.frozen? ⟨X, o, none⟩ = false
theorem BoxE.lt {w0 w : World} {X : Nat} {s t : ByteArray} {q d n : Int} (h : BoxE w0 w X s t q d n) : X < w.heap.size := World.block_lt_of_cell? _ _ h.c0
theorem BoxE.call {w0 w w' : World} {X : Nat} {s t : ByteArray} {q d n : Int} (h : BoxE w0 w X s t q d n) (hb : Below w.heap.size w w') : BoxE w0 w' X s t q d n :=
  ⟨h.low.trans (hb.mono (Nat.le_of_lt h.lt)), cell_later hb h.c0, cell_later hb h.c1, cell_later hb h.c2, cell_later hb h.c3, cell_later hb h.c4, fun o => (hb.frozen (p := ⟨X, o, none⟩) h.lt).trans (h.fr o)⟩
theorem BoxE.drew {w0 w : World} {X : Nat} {s t : ByteArray} {q d n : Int} (h : BoxE w0 w X s t q d n) : BoxE w0 w.drew X s t q d n := h.call (Below.refl _ w).drew
theorem BoxE.store0 {w0 w : World} {X : Nat} {s t : ByteArray} {q d n : Int} (h : BoxE w0 w X s t q d n) : BoxE w0 (w.setCell ⟨X, 0, none⟩ (.string s)) X s t q d n :=
  ⟨h.low.setCell (p := ⟨X, 0, none⟩) (Nat.le_refl _) _, World.cell?_setCell_same' _ _ _ (by rw [h.c0]; rfl), by rw [World.cell?_setCell_other _ _ _ _ (by simp)]; exact h.c1, by rw [World.cell?_setCell_other _ _ _ _ (by simp)]; exact h.c2, by rw [World.cell?_setCell_other _ _ _ _ (by simp)]; exact h.c3, by rw [World.cell?_setCell_other _ _ _ _ (by simp)]; exact h.c4, fun o => by rw [World.frozen?_setCell]; exact h.fr o⟩
theorem BoxE.store3 {w0 w : World} {X : Nat} {s t : ByteArray} {q d n : Int} (h : BoxE w0 w X s t q d n) : BoxE w0 (w.setCell ⟨X, 3, none⟩ (.string t)) X s t q d n :=
  ⟨h.low.setCell (p := ⟨X, 3, none⟩) (Nat.le_refl _) _, by rw [World.cell?_setCell_other _ _ _ _ (by simp)]; exact h.c0, by rw [World.cell?_setCell_other _ _ _ _ (by simp)]; exact h.c1, by rw [World.cell?_setCell_other _ _ _ _ (by simp)]; exact h.c2, World.cell?_setCell_same' _ _ _ (by rw [h.c3]; rfl), by rw [World.cell?_setCell_other _ _ _ _ (by simp)]; exact h.c4, fun o => by rw [World.frozen?_setCell]; exact h.fr o⟩
theorem BoxE.new (w : World) (T : TypeId) (s t : ByteArray) (q d n : Int) : BoxE w (w.alloc (.cells #[.string s, .int .i64 q, .int .i64 d, .string t, .int .i64 n] T)) w.heap.size s t q d n :=
  ⟨(Below.refl _ _).alloc (Nat.le_refl _) _, by simp, by simp, by simp, by simp, by simp, fun o => World.frozen?_alloc_new w _ _ o⟩
theorem cloneE_any (a : Option Addr) (len cap : Nat) (L : List EntD) (w : World) (hL : EntsAt w a len cap L) (hbig : len ≤ 1048576) (hsm : ∀ e ∈ L, e.1.size ≤ 281474976710656 ∧ e.2.2.2.1.size ≤ 281474976710656) :
    Calls Tryz.prog 111 #[.slice a len cap] w fun e w' => e = .returned (.slice (some ⟨w.heap.size, 0, none⟩) len len) ∧ OwnE w' w.heap.size w.heap.size len len L ∧ w.heap.size < w'.heap.size ∧ Below w.heap.size w w' := by
  have HLEN : Hid (L.length = len) := hL.length
  have HENTS : Hid (∀ l ∈ L, EntW l) := hL.ents
  have HSM : Hid (∀ e ∈ L, e.1.size ≤ 281474976710656 ∧ e.2.2.2.1.size ≤ 281474976710656) := hsm
  have HL : Hid (EntsAt w a len cap L) := hL
  clear hL hsm
  obtain ⟨i0, hi, hz0, hz1, hz2⟩ := info_parts Tryz.infoEnt
  go_enter Tryz.func111, Tryz.ntmps111
  go_wp2_with (at_make; refine wpList_make_full _ rfl _ _ 28 rfl w.heap.size 78 i0 _ 5 Tryz.underlying28 hi hz0 hz1 .i64 .i64 _ _ len rfl rfl (by simp) (by simp) (by rw [hz2]; omega) (by unfold maxLen; omega) (Nat.le_refl _) ?_; intro w1 hown hgrow)
  have hb1 : Below w.heap.size w w1 := (Below.refl _ _).grown hgrow (Nat.le_refl _) (by simp)
  have hsz1 : w.heap.size < w1.heap.size := (hown.lt _ rfl).2
  go_loopw [11] (fun i wr => ∃ (k : Nat) (xs : List Value), k ≤ len ∧ i = .int .i64 k ∧ wr.ownsRow w.heap.size 78 5 (.slice (some ⟨w.heap.size, 0, none⟩) len len) len xs ∧ Below w.heap.size w wr ∧ (∀ j l, j < k → L[j]? = some l → RowEnt xs j l)) (fun i _ => len - (intOf i).toNat)
  case atStart => exact ⟨0, _, Nat.zero_le _, rfl, hown, hb1, fun j l h => absurd h (Nat.not_lt_zero _)⟩
  case round =>
    obtain ⟨k, xs, hk, rfl, ho, hb, hrow⟩ := hrel
    have HROW : Hid (∀ j l, j < k → L[j]? = some l → RowEnt xs j l) := hrow
    clear hrow hown hgrow hb1 hsz1
    by_cases hlt : k < len
    · obtain ⟨b, off, rfl, hbb⟩ := HL.out.form (by omega)
      obtain ⟨s, q, d, t, n, hg, hlw, g0, g1, g2, g3, g4⟩ := HL.out.ent hb hbb k hlt
      have HG : Hid (L[k]? = some (s, q, d, t, n)) := hg
      obtain ⟨hs, ht⟩ := HSM.out _ (List.mem_of_getElem? hg)
      simp only at hs ht
      clear hg hlw
      have HX : Hid (xs.length = len * 5) := ho.1
      have HO : Hid (wr.ownsRow w.heap.size 78 5 (.slice (some ⟨w.heap.size, 0, none⟩) len len) len xs) := ho
      have hgl := (ho.lt w.heap.size rfl).2
      clear ho
      go_wp2_with fail
      obtain ⟨X, hX⟩ : ∃ X, X = wr.heap.size := ⟨_, rfl⟩
      obtain ⟨W, hW⟩ : ∃ W, W = wr.alloc (.cells #[.string s, .int .i64 q, .int .i64 d, .string t, .int .i64 n] 78) := ⟨_, rfl⟩
      have kW : BoxE wr W X s t q d n := by rw [hW, hX]; exact BoxE.new wr 78 s t q d n
      have hgX : w.heap.size < X := by rw [hX]; exact hgl
      have HXW : Hid (X = wr.heap.size) := hX
      rw [← hW, ← hX]
      clear hW hX
      have k0 : BoxE wr W.drew X s t q d n := kW.drew
      have HMK : Hid (∀ w', BoxE wr w' X s t q d n → (w'.cell? ⟨X, 0, none⟩ = some (.string s) ∧ w'.cell? ⟨X, 3, none⟩ = some (.string t))) := fun w' kk => ⟨kk.c0, kk.c3⟩
      refine wp_region_held_drew (S := (fun w' => w'.cell? ⟨X, 0, none⟩ = some (.string s) ∧ w'.cell? ⟨X, 3, none⟩ = some (.string t))) (by kernel_rfl) (HMK.out _ k0) (fun hHeld => ?_)
      refine tkL 0 hHeld ?_; try go_frame
      refine tkL 1 hHeld ?_; try go_frame
      refine tkL 3 hHeld ?_; try go_frame
      refine tkL 4 hHeld ?_; try go_frame
      refine wpAnyH_ready (rs := [2]) (by kernel_rfl) (by simp) ?_
      refine consL rfl (fun K hK => ?_) AllReadyH.nil
      go_simp
      refine (strClone _ _ hs).mono ?_
      rintro e w1 ⟨rfl, b1⟩
      have k1 := k0.call b1
      go_wp2_with fail
      refine hK.out _ _ (HMK.out _ k1) (fun hHeld => ?_)
      clear hK K
      try go_frame
      refine tkL 6 hHeld ?_; try go_frame
      refine wpAnyH_ready (rs := [5]) (by kernel_rfl) (by simp) ?_
      refine consL rfl (fun K hK => ?_) AllReadyH.nil
      go_simp
      refine (strClone _ _ ht).mono ?_
      rintro e w2 ⟨rfl, b2⟩
      have k2 := k1.call b2
      go_wp2_with fail
      refine hK.out _ _ (HMK.out _ k2) (fun hHeld => ?_)
      clear hK K
      try go_frame
      refine wpAnyH_ready (rs := [7]) (by kernel_rfl) (by simp) ?_
      refine consL rfl (fun K hK => ?_) AllReadyH.nil
      have c3 := k2.c0
      have f3 := k2.fr 0
      go_simp
      have k3 := k2.store0
      clear c3 f3
      refine hK.out _ _ (HMK.out _ k3) (fun hHeld => ?_)
      clear hK K
      try go_frame
      refine tkL 8 hHeld ?_; try go_frame
      refine wpAnyH_ready (rs := [9]) (by kernel_rfl) (by simp) ?_
      refine consL rfl (fun K hK => ?_) AllReadyH.nil
      have c4 := k3.c3
      have f4 := k3.fr 3
      go_simp
      have k4 := k3.store3
      clear c4 f4
      refine hK.out _ _ (HMK.out _ k4) (fun hHeld => ?_)
      clear hK K
      try go_frame
      refine wpAnyH_done (by kernel_rfl) ?_ _
      obtain ⟨W4, hW4⟩ : ∃ W4, W4 = ((w2.setCell ⟨X, 0, none⟩ (.string s)).setCell ⟨X, 3, none⟩ (.string t)) := ⟨_, rfl⟩
      rw [← hW4] at k4 ⊢
      have hb2 : Below wr.heap.size wr W4 := by have := k4.low; rw [HXW.out] at this; exact this
      have z0 := k4.c0
      have z1 := k4.c1
      have z2 := k4.c2
      have z3 := k4.c3
      have z4 := k4.c4
      have hX4 := k4.lt
      have K4 : Hid (BoxE wr W4 X s t q d n) := k4
      clear hW4 k1 k2 k3 k4 k0 kW b1 b2 HMK hHeld
      have ho2 : W4.ownsRow w.heap.size 78 5 (.slice (some ⟨w.heap.size, 0, none⟩) len len) len xs := HO.out.kept (row := none) ⟨hb2.os, hb2.tape, hb2.output, hb2.size, fun k hk _ => hb2.block k hk⟩ (.inr (by simp [Value.ownBlock]))
      have c0 : ∃ v, W4.cell? ⟨w.heap.size, k * 5, none⟩ = some v := ⟨_, (ho2.cellAt _ (by omega)).trans (List.getElem?_eq_getElem (by rw [HX.out]; omega))⟩
      have c1 : ∃ v, W4.cell? ⟨w.heap.size, k * 5 + 1, none⟩ = some v := ⟨_, (ho2.cellAt _ (by omega)).trans (List.getElem?_eq_getElem (by rw [HX.out]; omega))⟩
      have c2 : ∃ v, W4.cell? ⟨w.heap.size, k * 5 + 2, none⟩ = some v := ⟨_, (ho2.cellAt _ (by omega)).trans (List.getElem?_eq_getElem (by rw [HX.out]; omega))⟩
      have c3 : ∃ v, W4.cell? ⟨w.heap.size, k * 5 + 3, none⟩ = some v := ⟨_, (ho2.cellAt _ (by omega)).trans (List.getElem?_eq_getElem (by rw [HX.out]; omega))⟩
      have c4 : ∃ v, W4.cell? ⟨w.heap.size, k * 5 + 4, none⟩ = some v := ⟨_, (ho2.cellAt _ (by omega)).trans (List.getElem?_eq_getElem (by rw [HX.out]; omega))⟩
      obtain ⟨v0, c0⟩ := c0
      obtain ⟨v1, c1⟩ := c1
      obtain ⟨v2, c2⟩ := c2
      obtain ⟨v3, c3⟩ := c3
      obtain ⟨v4, c4⟩ := c4
      have f0 : W4.frozen? ⟨w.heap.size, k * 5, none⟩ = false := ho2.frozenAt _
      have f1 : W4.frozen? ⟨w.heap.size, k * 5 + 1, none⟩ = false := ho2.frozenAt _
      have f2 : W4.frozen? ⟨w.heap.size, k * 5 + 2, none⟩ = false := ho2.frozenAt _
      have f3 : W4.frozen? ⟨w.heap.size, k * 5 + 3, none⟩ = false := ho2.frozenAt _
      have f4 : W4.frozen? ⟨w.heap.size, k * 5 + 4, none⟩ = false := ho2.frozenAt _
      have HO2 : Hid (W4.ownsRow w.heap.size 78 5 (.slice (some ⟨w.heap.size, 0, none⟩) len len) len xs) := ho2
      clear ho2
      go_wp2
      go_roundw
      case rel =>
        have t0 := HO2.out.stored (k * 5) (.string s)
        have t1 := t0.1.stored (k * 5 + 1) (.int .i64 q)
        have t2 := t1.1.stored (k * 5 + 2) (.int .i64 d)
        have t3 := t2.1.stored (k * 5 + 3) (.string t)
        have t4 := t3.1.stored (k * 5 + 4) (.int .i64 n)
        refine ⟨k + 1, _, by omega, by go_num, t4.1, ?_, ?_⟩
        · exact (((((hb.trans (hb2.mono hb.size)).setCell (p := ⟨w.heap.size, _, none⟩) (Nat.le_refl _) _).setCell (p := ⟨w.heap.size, _, none⟩) (Nat.le_refl _) _).setCell (p := ⟨w.heap.size, _, none⟩) (Nat.le_refl _) _).setCell (p := ⟨w.heap.size, _, none⟩) (Nat.le_refl _) _).setCell (p := ⟨w.heap.size, _, none⟩) (Nat.le_refl _) _
        · intro j l hj hl
          by_cases hjk : j = k
          · subst hjk
            rw [HG.out] at hl
            cases hl
            exact rowEnt_same s t q d n (by rw [HX.out]; omega)
          · exact rowEnt_other (HROW.out j l (by omega) hl) hjk _ _ _ _ _
      case measure => simp [intOf]; omega
    · go_wp2
      go_ret
      exact ⟨rfl, ⟨by rw [← row_flat (xs := xs) (L := L) (by rw [HLEN.out]; exact ho.1) (fun j l hl => HROW.out j l (by have := (List.getElem?_eq_some_iff.1 hl).1; rw [HLEN.out] at this; omega) hl)]; exact ho, HLEN.out, HENTS.out⟩, (ho.lt _ rfl).2, hb⟩
end Go.Proofs.YtlmgojlffgkciaaGreat

namespace Go.Proofs.YtlmgojlffgkciaaGreat
open Go.RowKit
theorem grown_frozen {w w' : World} {row : Option Nat} (hg : w.grownBy w' row) {x : Addr} (hx : x.block < w.heap.size) (hn : some x.block ≠ row) : w'.frozen? x = w.frozen? x := World.frozen?_of_block (hg.block x.block hx hn)
theorem row_form {w : World} {base e size k : Nat} {v : Value} {xs : List Value} (h : w.ownsRow base e size v k xs) (hne : ¬ v = .slice none 0 0) : ∃ g cap, v = .slice (some ⟨g, 0, none⟩) k cap := by
  rcases h.2 with ⟨h', _⟩ | ⟨g, cap, _, h', _⟩
  · exact absurd h' hne
  · exact ⟨g, cap, h'⟩
theorem step_append_own {P : Program} {ops : Array Oper} {o : Oper} {a : Act} {w : World} {K : Act → World → Prop} {Q : Exit → Act → World → Prop} {E : Prop}
    (hg : o.guard = none) (s x : Operand) (t : TypeId) (hop : o.op = Op.call { callee := Callee.builtin Builtin.append, args := #[s, x], argTypes := #[t, t] })
    (base : Nat) (e : TypeId) (i : TypeInfo) (z : Value) (size bytes : Nat) (h1 : P.underlying t = some (.slice e)) (h2 : P.info? e = some i) (h3 : i.zero = some z) (h4 : i.size = size) (h5 : i.bytes = bytes) (h6 : z.cells.size = size) (h7 : 0 < size)
    (v : Value) (n : Nat) (olds : List Value) (hs : a.eval s = v) (hown : w.ownsRow base e size v n olds)
    (ad : Addr) (m c : Nat) (news : List Value) (hx : a.eval x = .slice (some ad) m c) (hn : news.length = m * size) (hc : ∀ j u, news[j]? = some u → w.cell? (ad.add j) = some u) (h1c : ∀ u ∈ news, u.oneCell' = true)
    (b1 : n + m ≤ maxLen) (b2 : (n + m) * bytes ≤ 140737488355328) (b3 : base ≤ w.heap.size)
    (hK : ∀ v' w', w'.ownsRow base e size v' (n + m) (olds ++ news) → w.grownBy w' v.ownBlock → (v' = .slice none 0 0 ↔ v = .slice none 0 0 ∧ m = 0) → K (a.put o.dst v') w') :
    if Region.wanted o (yielded ops a.tmps) = true then Oper.wp P o a w K Q else E := by
  have hw : Region.wanted o (yielded ops a.tmps) = true := by simp [Region.wanted, hg]
  rw [if_pos hw]
  obtain ⟨v', w', hrun, r1, r2, r3⟩ := run_append_own (P := P) w base t o.type e i z size bytes h1 h2 h3 h4 h5 h6 h7 v n olds hown ad m c news hn hc h1c b1 b2 b3
  unfold Oper.wp
  simp [execOp, hop, resolve, invoke, builtin, hs, hx, hrun, Result.andThen]
  exact hK v' w' r1 r2 r3
end Go.Proofs.YtlmgojlffgkciaaGreat

namespace Go.Proofs.YtlmgojlffgkciaaGreat
open Go.RowKit
theorem step_make_full {P : Program} {ops : Array Oper} {o : Oper} {a : Act} {w : World} {K : Act → World → Prop} {Q : Exit → Act → World → Prop} {E : Prop}
    (hg : o.guard = none) (l c : Operand) (t : TypeId) (hop : o.op = Op.makeSlice t l c)
    (base : Nat) (e : TypeId) (i : TypeInfo) (z : Value) (size : Nat) (h1 : P.underlying t = some (.slice e)) (h2 : P.info? e = some i) (h3 : i.zero = some z) (h4 : i.size = size)
    (kl kc : IntKind) (L C : Int) (n : Nat) (hl : a.eval l = .int kl L) (hc : a.eval c = .int kc C) (hL : L = (n : Int)) (hC : C = (n : Int)) (b2 : i.bytes * n ≤ 281474976710656) (b3 : n ≤ maxLen) (b4 : base ≤ w.heap.size)
    (hK : ∀ w', w'.ownsRow base e size (.slice (some ⟨w.heap.size, 0, none⟩) n n) n (madeCells z.cells (n * size)).toList → w.grownBy w' none → K (a.put o.dst (.slice (some ⟨w.heap.size, 0, none⟩) n n)) w') :
    if Region.wanted o (yielded ops a.tmps) = true then Oper.wp P o a w K Q else E := by
  have hw : Region.wanted o (yielded ops a.tmps) = true := by simp [Region.wanted, hg]
  rw [if_pos hw]
  obtain ⟨w', hrun, r1, r2⟩ := run_make_full (P := P) w base t e i z size h1 h2 h3 h4 kl kc n b2 b3 b4
  subst hL
  subst hC
  unfold Oper.wp
  simp [execOp, hop, hl, hc, hrun, Result.andThen]
  exact hK w' r1 r2
theorem row_keep {w w' : World} {base : Nat} {e : TypeId} {K g n c k : Nat} {xs : List Value} (h : w.ownsRow base e K (.slice (some ⟨g, 0, none⟩) n c) k xs) (hb : Below w.heap.size w w') : w'.ownsRow base e K (.slice (some ⟨g, 0, none⟩) n c) k xs :=
  h.kept (row := none) ⟨hb.os, hb.tape, hb.output, hb.size, fun k hk _ => hb.block k hk⟩ (.inr (by simp [Value.ownBlock]))
theorem row_set {w : World} {base : Nat} {e : TypeId} {K g n c k P : Nat} {xs : List Value} (h : w.ownsRow base e K (.slice (some ⟨g, 0, none⟩) n c) k xs) (hne : g ≠ P) (o : Nat) (u : Value) : (w.setCell ⟨P, o, none⟩ u).ownsRow base e K (.slice (some ⟨g, 0, none⟩) n c) k xs :=
  h.kept (row := some P) ⟨rfl, rfl, rfl, by simp [World.setCell], fun k _ hk => Below.heap_setCell _ _ _ _ (fun e => hk (by rw [e]))⟩ (.inr (by simp [Value.ownBlock]; exact hne))
end Go.Proofs.YtlmgojlffgkciaaGreat

namespace Go.Proofs.YtlmgojlffgkciaaGreat
open Go.RowKit
def SmallE (L : List EntD) : Prop := ∀ e ∈ L, e.1.size ≤ 281474976710656 ∧ e.2.2.2.1.size ≤ 281474976710656
def SmallRE (B : List RunD) : Prop := ∀ p ∈ B, SmallE p.1
end Go.Proofs.YtlmgojlffgkciaaGreat

namespace Go.Proofs.YtlmgojlffgkciaaGreat
open Go.RowKit
theorem idxR_0 (w : World) (a0 a1 a2 : Option Addr) (n0 c0 n1 c1 n2 c2 : Nat) : (Instr.index 65 (.agg #[.slice a0 n0 c0, .slice a1 n1 c1, .slice a2 n2 c2]) (.int .i64 0)).run Tryz.prog w = .ok (.slice a0 n0 c0) w := by
  simp [Instr.index, run_underlying Tryz.underlying65, asIntOf, go_sem, Tryz.isAgg64, Tryz.sizeOf64, part]
theorem idxR_1 (w : World) (a0 a1 a2 : Option Addr) (n0 c0 n1 c1 n2 c2 : Nat) : (Instr.index 65 (.agg #[.slice a0 n0 c0, .slice a1 n1 c1, .slice a2 n2 c2]) (.int .i64 1)).run Tryz.prog w = .ok (.slice a1 n1 c1) w := by
  simp [Instr.index, run_underlying Tryz.underlying65, asIntOf, go_sem, Tryz.isAgg64, Tryz.sizeOf64, part]
theorem idxR_2 (w : World) (a0 a1 a2 : Option Addr) (n0 c0 n1 c1 n2 c2 : Nat) : (Instr.index 65 (.agg #[.slice a0 n0 c0, .slice a1 n1 c1, .slice a2 n2 c2]) (.int .i64 2)).run Tryz.prog w = .ok (.slice a2 n2 c2) w := by
  simp [Instr.index, run_underlying Tryz.underlying65, asIntOf, go_sem, Tryz.isAgg64, Tryz.sizeOf64, part]
end Go.Proofs.YtlmgojlffgkciaaGreat

namespace Go.Proofs.YtlmgojlffgkciaaGreat
open Go.RowKit
def HasR (Z : Nat) (w : World) (xs : List Value) (V : List (List RunD)) (k : Nat) : Prop := ∀ j, j < k → ∃ (b n : Nat) (B : List RunD), V[j]? = some B ∧ xs[j]? = some (.slice (some ⟨b, 0, none⟩) n n) ∧ RunsIn Z w (some ⟨b, 0, none⟩) n n B
theorem HasR.same {Z : Nat} {w w' : World} {xs : List Value} {V : List (List RunD)} {k : Nat} (h : HasR Z w xs V k) (hs : Same Z w w') : HasR Z w' xs V k := fun j hj => by
  obtain ⟨b, n, B, h1, h2, h3⟩ := h j hj
  exact ⟨b, n, B, h1, h2, h3.same hs⟩
theorem levels_hasR {lo Z base : Nat} {w : World} {vb : Nat} {xs : List Value} {V : List (List RunD)} (h : w.ownsRow base 64 1 (.slice (some ⟨vb, 0, none⟩) 3 3) 3 xs) (hb : lo ≤ vb) (hZ : lo ≤ Z) (hV : V.length = 3) (h0 : HasR Z w xs V 3) : LevelsIn lo w (some ⟨vb, 0, none⟩) 3 3 V := by
  have hlt := (h.lt vb rfl).2
  refine ⟨hV, Nat.le_refl _, by unfold maxLen; omega, (fun e => by cases e), (fun x e _ => by cases e; exact ⟨hlt, rfl, hb⟩), ?_⟩
  rintro x e i hi
  cases e
  obtain ⟨b, n, B, h1, h2, h3⟩ := h0 i (by omega)
  rw [List.getElem?_eq_getElem hi] at h1
  cases h1
  exact ⟨some ⟨b, 0, none⟩, n, n, by simp only [Nat.zero_add]; exact (h.cellAt i (by omega)).trans h2, h3.mono hZ⟩
theorem setCells_ind {R : World → Prop} {b : Nat} (hstep : ∀ w o u, R w → R (w.setCell ⟨b, o, none⟩ u)) : ∀ (cs : List Value) (o : Nat) (w : World), R w → R (w.setCells b o cs)
  | [], _, _, h => h
  | c :: cs, o, w, h => setCells_ind hstep cs (o + 1) (w.setCell ⟨b, o, none⟩ c) (hstep w o c h)
end Go.Proofs.YtlmgojlffgkciaaGreat

namespace Go.Proofs.YtlmgojlffgkciaaGreat
open Go.RowKit
set_option maxRecDepth 100000
set_option maxHeartbeats 4000000
theorem cloneR_o (lo : Nat) (a : Option Addr) (len cap : Nat) (B : List RunD) (w : World) (hP : RunsIn lo w a len cap B) (hS : SmallR B) (hE : SmallRE B) :
    Calls Tryz.prog 121 #[.slice a len cap] w fun e w' => e = .returned (.slice (some ⟨w.heap.size, 0, none⟩) len len) ∧ (∃ es, RunsO w.heap.size w'.heap.size w' w.heap.size len B es) ∧ w.heap.size < w'.heap.size ∧ Below w.heap.size w w' := by
  have HLEN : Hid (B.length = len) := hP.length
  have HWF : Hid (∀ p ∈ B, (Lit.int .i64 p.2).wf = true) := hP.wfs
  have hbig : len ≤ 1048576 := by have := hP.length; have := hS.1; omega
  have HSM : Hid (SmallR B) := hS
  have HSE : Hid (SmallRE B) := hE
  have HL : Hid (RunsIn lo w a len cap B) := hP
  clear hP hS hE
  obtain ⟨i0, hi, hz0, hz1, hz2⟩ := info_parts Tryz.infoRun
  go_enter Tryz.func121, Tryz.ntmps121
  go_wp2_with (at_make; refine wpList_make_full _ rfl _ _ 64 rfl w.heap.size 102 i0 _ 2 Tryz.underlying64 hi hz0 hz1 .i64 .i64 _ _ len rfl rfl (by simp) (by simp) (by rw [hz2]; omega) (by unfold maxLen; omega) (Nat.le_refl _) ?_; intro w1 hown hgrow)
  have hb1 : Below w.heap.size w w1 := (Below.refl _ _).grown hgrow (Nat.le_refl _) (by simp)
  have hsz1 : w.heap.size < w1.heap.size := (hown.lt _ rfl).2
  obtain ⟨G, hG⟩ : ∃ G, w.heap.size = G := ⟨_, rfl⟩
  rw [hG] at hown hsz1 ⊢
  have HG0 : Hid (w.heap.size = G) := hG
  have HBW : Hid (Below G w w1) := by show Below G w w1; rw [← hG]; exact hb1
  clear hG hb1 hgrow
  go_loopw [11] (fun i wr => ∃ (k : Nat) (xs : List Value) (es : Nat → Nat), k ≤ len ∧ i = .int .i64 k ∧ wr.ownsRow G 102 2 (.slice (some ⟨G, 0, none⟩) len len) len xs ∧ Below G w wr ∧ (∀ (j : Nat) (p : RunD), j < k → B[j]? = some p → xs[j * 2]? = some (.slice (some ⟨es j, 0, none⟩) p.1.length p.1.length) ∧ xs[j * 2 + 1]? = some (.int .i64 p.2) ∧ OwnE wr (G + 1) (es j) p.1.length p.1.length p.1) ∧ (∀ i j, i < j → j < k → es i < es j) ∧ (∀ i, i < k → es i < wr.heap.size)) (fun i _ => len - (intOf i).toNat)
  case atStart => exact ⟨0, _, fun _ => 0, Nat.zero_le _, rfl, hown, HBW.out, (fun j l h => absurd h (Nat.not_lt_zero _)), (fun i j _ h => absurd h (Nat.not_lt_zero _)), (fun i h => absurd h (Nat.not_lt_zero _))⟩
  case round =>
    obtain ⟨k, xs, es, hk, rfl, ho, hb, hrow, hup, htop⟩ := hrel
    have HROW : Hid (∀ (j : Nat) (p : RunD), j < k → B[j]? = some p → xs[j * 2]? = some (.slice (some ⟨es j, 0, none⟩) p.1.length p.1.length) ∧ xs[j * 2 + 1]? = some (.int .i64 p.2) ∧ OwnE wr (G + 1) (es j) p.1.length p.1.length p.1) := hrow
    have HUP : Hid (∀ i j, i < j → j < k → es i < es j) := hup
    have HTOP : Hid (∀ i, i < k → es i < wr.heap.size) := htop
    clear hrow hown hup htop
    have hzr : G < wr.heap.size := (ho.lt _ rfl).2
    have hbw : Below w.heap.size w wr := by rw [HG0.out]; exact hb
    have HB : Hid (Below G w wr) := hb
    clear hb
    by_cases hlt : k < len
    · have hltI : (k : Int) < (len : Int) := by omega
      obtain ⟨b, off, rfl, hbb⟩ := HL.out.form (by omega)
      obtain ⟨L, m, s, n, c, hg, _, g0, g1, hLk⟩ := HL.out.run hbw k hlt
      have hn : n ≤ 1048576 := by
        have := HSM.out.2 _ (List.mem_of_getElem? hg)
        have := hLk.1.length
        simp only at *
        omega
      have HSL : Hid (SmallE L) := HSE.out _ (List.mem_of_getElem? hg)
      have HG : Hid (B[k]? = some (L, m)) := hg
      have HBN : Hid (L.length = n) := hLk.1.length
      have hbk : b < wr.heap.size := Nat.lt_of_lt_of_le hbb hbw.size
      have HLK : Hid (EntsAt wr s n c L) := hLk.1
      have HX : Hid (xs.length = len * 2) := ho.1
      have HO : Hid (wr.ownsRow G 102 2 (.slice (some ⟨G, 0, none⟩) len len) len xs) := ho
      clear hg hLk ho hbw
      go_upto_region 5 with fail
      obtain ⟨X, hX⟩ : ∃ X, wr.heap.size = X := ⟨_, rfl⟩
      obtain ⟨W, hW⟩ : ∃ W, W = wr.alloc (.cells #[.slice s n c, .int .i64 m] 102) := ⟨_, rfl⟩
      have kW : Below wr.heap.size wr W := by rw [hW]; exact (Below.refl _ _).alloc (Nat.le_refl _) _
      have x0 : W.cell? ⟨X, 0, none⟩ = some (.slice s n c) := by rw [hW, ← hX]; simp
      have x1 : W.cell? ⟨X, 1, none⟩ = some (.int .i64 m) := by rw [hW, ← hX]; simp
      have xz : X < W.heap.size := World.block_lt_of_cell? _ _ x0
      have HKW : Hid (Below wr.heap.size wr W) := kW
      rw [← hW, hX]
      clear hW kW hX
      have HOW : Hid (W.ownsRow G 102 2 (.slice (some ⟨G, 0, none⟩) len len) len xs) := HO.out.kept (row := none) (grown_below HKW.out) (.inr (by simp [Value.ownBlock]))
      have hzW : G < W.heap.size := Nat.lt_of_lt_of_le hzr HKW.out.size
      go_region_with (go_at_call 111; refine (cloneE_any s n c L _ ((HLK.out.keep HKW.out).keep ((Below.refl _ W).drew)) hn HSL.out).mono ?_; rintro e w2 ⟨rfl, hown2, hsz2, hb2⟩; have k2 : Below W.heap.size W w2 := ((Below.refl _ W).drew).trans hb2; have x1' := cell_later k2 x1; have xz' := Nat.lt_of_lt_of_le xz k2.size; have ho2 : w2.ownsRow G 102 2 (.slice (some ⟨G, 0, none⟩) len len) len xs := HOW.out.kept (row := none) (grown_below k2) (.inr (by simp [Value.ownBlock])); obtain ⟨v0, c0⟩ : ∃ v, w2.cell? ⟨G, k * 2, none⟩ = some v := ⟨_, (ho2.cellAt _ (by omega)).trans (List.getElem?_eq_getElem (by rw [HX.out]; omega))⟩; obtain ⟨v1, c1⟩ : ∃ v, w2.cell? ⟨G, k * 2 + 1, none⟩ = some v := ⟨_, (ho2.cellAt _ (by omega)).trans (List.getElem?_eq_getElem (by rw [HX.out]; omega))⟩; have f0 : w2.frozen? ⟨G, k * 2, none⟩ = false := ho2.frozenAt _; have f1 : w2.frozen? ⟨G, k * 2 + 1, none⟩ = false := ho2.frozenAt _; have zG := Nat.lt_of_lt_of_le hzW k2.size)
      all_goals
        have HE2 : Hid (OwnE w2 (G + 1) W.heap.size n n L) := hown2.mono hzW
        have HZ2 : Hid (W.heap.size < w2.heap.size ∧ wr.heap.size ≤ W.heap.size) := ⟨hsz2, HKW.out.size⟩
        have HO2 : Hid (w2.ownsRow G 102 2 (.slice (some ⟨G, 0, none⟩) len len) len xs) := ho2
        have K2 : Hid (Below wr.heap.size wr w2) := HKW.out.trans (k2.mono HKW.out.size)
        clear hown2 hsz2 hb2 k2 ho2 c0 c1 f0 f1 HOW HKW x0 x1 xz
        go_wp2
        go_roundw
        case rel =>
          have t0 := HO2.out.stored (k * 2) (.slice (some ⟨W.heap.size, 0, none⟩) n n)
          have t1 := t0.1.stored (k * 2 + 1) (.int .i64 m)
          have hgr := t0.2.trans t1.2
          have hz := HZ2.out
          have hss := hgr.size
          refine ⟨k + 1, _, fun i => if i = k then W.heap.size else es i, by omega, by go_num, t1.1, ?_, ?_, ?_, ?_⟩
          · exact ((HB.out.trans (K2.out.mono (by omega))).setCell (p := ⟨G, _, none⟩) (Nat.le_refl _) _).setCell (p := ⟨G, _, none⟩) (Nat.le_refl _) _
          · intro j p hj hp
            by_cases hjk : j = k
            · subst hjk
              rw [HG.out] at hp
              cases hp
              simp only [if_true, HBN.out]
              refine ⟨?_, ?_, HE2.out.grown hgr (fun e => ?_)⟩
              · rw [List.getElem?_set_ne (by omega), List.getElem?_set_self (by rw [HX.out]; omega)]
              · rw [List.getElem?_set_self (by rw [List.length_set, HX.out]; omega)]
              · have h1 : W.heap.size = G := Option.some.inj e; omega
            · obtain ⟨h1, h2, h3⟩ := HROW.out j p (by omega) hp
              simp only [if_neg hjk]
              refine ⟨?_, ?_, (h3.below K2.out).grown hgr (fun e => ?_)⟩
              · rw [List.getElem?_set_ne (by omega), List.getElem?_set_ne (by omega)]; exact h1
              · rw [List.getElem?_set_ne (by omega), List.getElem?_set_ne (by omega)]; exact h2
              · have h4 : es j = G := Option.some.inj e; have h5 := h3.lt.1; omega
          · intro i j hij hj
            simp only
            by_cases hjk : j = k
            · rw [if_pos hjk, if_neg (by omega)]
              have := HTOP.out i (by omega); omega
            · rw [if_neg hjk, if_neg (by omega)]
              exact HUP.out i j hij (by omega)
          · intro i hi'
            simp only
            by_cases hik : i = k
            · rw [if_pos hik]; omega
            · rw [if_neg hik]
              have := HTOP.out i (by omega)
              have := K2.out.size
              omega
        case measure => simp [intOf]; omega
    · go_wp2
      go_ret
      rw [HG0.out]
      have hlt : ∀ {i : Nat} {p : RunD}, B[i]? = some p → i < k := fun hp => by have := (List.getElem?_eq_some_iff.1 hp).1; rw [HLEN.out] at this; omega
      have hkl : k = len := by omega
      have hup := HUP.out
      have htop := HTOP.out
      rw [hkl] at hup htop
      exact ⟨rfl, ⟨es, ⟨HLEN.out, ⟨xs, ho, fun i p hp => ⟨(HROW.out i p (hlt hp) hp).1, (HROW.out i p (hlt hp) hp).2.1⟩⟩, fun i p hp => (HROW.out i p (hlt hp) hp).2.2.mono (by omega), hup, ⟨hzr, htop⟩, HWF.out⟩⟩, hzr, HB.out⟩
end Go.Proofs.YtlmgojlffgkciaaGreat
