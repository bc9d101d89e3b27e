/-
  The laws' copy of a tree, by a walk of its Go text; boxes of four cells.
  The program's shareTree: what it answers at every tree; by walks of its Go text.
  The document's MergeAll: entries of several lists put in order one by one, by a walk of its Go text.
-/
import Derived.Test.YtapjkbpfhmbfaaaGreatDoorSo36
import Derived.Laws.IdiomCopy
import Derived.Deep.RegionWith
import Derived.Deep.DeepCutAuto
import Derived.Test.YtapjkbpfhmbfaaaGreatDoorSo13
import Derived.Test.YtapjkbpfhmbfaaaGreatDoorSo16
namespace Go.Proofs.YtapjkbpfhmbfaaaGreatDoor
open Go.RowKit
structure Box4 (w : World) (b : Nat) (u0 u1 u2 u3 : Value) : Prop where
  c0 : w.cell? ⟨b, 0, none⟩ = some u0
  c1 : w.cell? ⟨b, 1, none⟩ = some u1
  c2 : w.cell? ⟨b, 2, none⟩ = some u2
  c3 : w.cell? ⟨b, 3, none⟩ = some u3
  fz : ∀ o, w.frozen? ⟨b, o, none⟩ = false
theorem Box4.lt {w : World} {b : Nat} {u0 u1 u2 u3 : Value} (h : Box4 w b u0 u1 u2 u3) : b < w.heap.size := World.block_lt_of_cell? w _ h.c0
theorem Box4.new (w : World) (t : TypeId) (u0 u1 u2 u3 : Value) : Box4 (w.alloc (.cells #[u0, u1, u2, u3] t)) w.heap.size u0 u1 u2 u3 := ⟨by simp, by simp, by simp, by simp, fun o => by simp⟩
theorem Box4.below {B : Nat} {w w' : World} {b : Nat} {u0 u1 u2 u3 : Value} (h : Box4 w b u0 u1 u2 u3) (hb : Below B w w') (hB : b < B) : Box4 w' b u0 u1 u2 u3 :=
  ⟨(hb.cell (p := ⟨b, 0, none⟩) hB).trans h.c0, (hb.cell (p := ⟨b, 1, none⟩) hB).trans h.c1, (hb.cell (p := ⟨b, 2, none⟩) hB).trans h.c2, (hb.cell (p := ⟨b, 3, none⟩) hB).trans h.c3, fun o => (hb.frozen (p := ⟨b, o, none⟩) hB).trans (h.fz o)⟩
theorem Box4.keep {w w' : World} {b : Nat} {u0 u1 u2 u3 : Value} (h : Box4 w b u0 u1 u2 u3) (hb : Below w.heap.size w w') : Box4 w' b u0 u1 u2 u3 := h.below hb h.lt
theorem Box4.alloc {w : World} {b : Nat} {u0 u1 u2 u3 : Value} (h : Box4 w b u0 u1 u2 u3) (o : Obj) : Box4 (w.alloc o) b u0 u1 u2 u3 := h.keep ((Below.refl _ _).alloc (Nat.le_refl _) _)
theorem cell_elsewhere {w : World} {b o b' o' : Nat} (x : Value) (h : ¬ (b = b' ∧ o = o')) : (w.setCell ⟨b', o', none⟩ x).cell? ⟨b, o, none⟩ = w.cell? ⟨b, o, none⟩ :=
  World.cell?_setCell_other _ _ _ _ (fun e => h (by cases e; exact ⟨rfl, rfl⟩))
theorem Box4.other {w : World} {b : Nat} {u0 u1 u2 u3 : Value} (h : Box4 w b u0 u1 u2 u3) {b' o : Nat} (hp : b' ≠ b) (x : Value) : Box4 (w.setCell ⟨b', o, none⟩ x) b u0 u1 u2 u3 :=
  ⟨(cell_elsewhere x (fun e => hp e.1.symm)).trans h.c0, (cell_elsewhere x (fun e => hp e.1.symm)).trans h.c1, (cell_elsewhere x (fun e => hp e.1.symm)).trans h.c2, (cell_elsewhere x (fun e => hp e.1.symm)).trans h.c3, fun o => by rw [World.frozen?_setCell]; exact h.fz o⟩
theorem Box4.set0 {w : World} {b : Nat} {u0 u1 u2 u3 : Value} (h : Box4 w b u0 u1 u2 u3) (x : Value) : Box4 (w.setCell ⟨b, 0, none⟩ x) b x u1 u2 u3 :=
  ⟨World.cell?_setCell_same' _ _ _ (by rw [h.c0]; rfl), (cell_elsewhere x (by simp)).trans h.c1, (cell_elsewhere x (by simp)).trans h.c2, (cell_elsewhere x (by simp)).trans h.c3, fun o => by rw [World.frozen?_setCell]; exact h.fz o⟩
theorem Box4.set1 {w : World} {b : Nat} {u0 u1 u2 u3 : Value} (h : Box4 w b u0 u1 u2 u3) (x : Value) : Box4 (w.setCell ⟨b, 1, none⟩ x) b u0 x u2 u3 :=
  ⟨(cell_elsewhere x (by simp)).trans h.c0, World.cell?_setCell_same' _ _ _ (by rw [h.c1]; rfl), (cell_elsewhere x (by simp)).trans h.c2, (cell_elsewhere x (by simp)).trans h.c3, fun o => by rw [World.frozen?_setCell]; exact h.fz o⟩
theorem Box4.set2 {w : World} {b : Nat} {u0 u1 u2 u3 : Value} (h : Box4 w b u0 u1 u2 u3) (x : Value) : Box4 (w.setCell ⟨b, 2, none⟩ x) b u0 u1 x u3 :=
  ⟨(cell_elsewhere x (by simp)).trans h.c0, (cell_elsewhere x (by simp)).trans h.c1, World.cell?_setCell_same' _ _ _ (by rw [h.c2]; rfl), (cell_elsewhere x (by simp)).trans h.c3, fun o => by rw [World.frozen?_setCell]; exact h.fz o⟩
theorem Box4.set3 {w : World} {b : Nat} {u0 u1 u2 u3 : Value} (h : Box4 w b u0 u1 u2 u3) (x : Value) : Box4 (w.setCell ⟨b, 3, none⟩ x) b u0 u1 u2 x :=
  ⟨(cell_elsewhere x (by simp)).trans h.c0, (cell_elsewhere x (by simp)).trans h.c1, (cell_elsewhere x (by simp)).trans h.c2, World.cell?_setCell_same' _ _ _ (by rw [h.c3]; rfl), fun o => by rw [World.frozen?_setCell]; exact h.fz o⟩
def ToR (q : Int) (nm nv ns : Nat) (M : List EntD) (V : List (List RunD)) (S : List Int) (w : World) (e : Ending) (w' : World) : Prop :=
  ∃ b1 b2 b3 : Nat, e = .returned (.agg #[.int .i64 q, .slice (some ⟨b1, 0, none⟩) nm nm, .slice (some ⟨b2, 0, none⟩) nv nv, .slice (some ⟨b3, 0, none⟩) ns ns]) ∧ TreeIn w.heap.size w' (some ⟨b1, 0, none⟩) nm nm (some ⟨b2, 0, none⟩) nv nv (some ⟨b3, 0, none⟩) ns ns M V S ∧ Below w.heap.size w w'
set_option maxHeartbeats 1600000 in
theorem toTree_any (q : Int) (lo : Nat) (am av ak : Option Addr) (nm cm nv cv ns cs : Nat) (M : List EntD) (V : List (List RunD)) (S : List Int) (w : World) (h : TreeIn lo w am nm cm av nv cv ak ns cs M V S) (hs : SmallT M V S) :
    Calls Tryz.prog 42 #[.agg #[.int .i64 q, .slice am nm cm, .slice av nv cv, .slice ak ns cs]] w (ToR q nm nv ns M V S w) := by
  obtain ⟨X, hX⟩ : ∃ X, X = w.heap.size := ⟨_, rfl⟩
  obtain ⟨W, hW⟩ : ∃ W, W = ((w.alloc (.cells #[.int .i64 q, .slice am nm cm, .slice av nv cv, .slice ak ns cs] 26)).alloc (.cells #[.int .i64 0, .slice none 0 0, .slice none 0 0, .slice none 0 0] 36)).alloc (.cells #[.int .i64 q, .slice none 0 0, .slice none 0 0, .slice none 0 0] 36) := ⟨_, rfl⟩
  have kW : Below w.heap.size w W := by rw [hW]; exact (((Below.refl _ _).alloc (Nat.le_refl _) _).alloc (by simp) _).alloc (by simp; omega) _
  have bp : Box4 W X (.int .i64 q) (.slice am nm cm) (.slice av nv cv) (.slice ak ns cs) := by rw [hW, hX]; exact ((Box4.new _ _ _ _ _ _).alloc _).alloc _
  have br : Box4 W (X + 1) (.int .i64 0) (.slice none 0 0) (.slice none 0 0) (.slice none 0 0) := by
    have := (Box4.new (w.alloc (.cells #[.int .i64 q, .slice am nm cm, .slice av nv cv, .slice ak ns cs] 26)) 36 (.int .i64 0) (.slice none 0 0) (.slice none 0 0) (.slice none 0 0)).alloc (.cells #[.int .i64 q, .slice none 0 0, .slice none 0 0, .slice none 0 0] 36)
    rw [World.size_alloc] at this
    rw [hW, hX]
    exact this
  have bo : Box4 W (X + 1 + 1) (.int .i64 q) (.slice none 0 0) (.slice none 0 0) (.slice none 0 0) := by
    have := Box4.new ((w.alloc (.cells #[.int .i64 q, .slice am nm cm, .slice av nv cv, .slice ak ns cs] 26)).alloc (.cells #[.int .i64 0, .slice none 0 0, .slice none 0 0, .slice none 0 0] 36)) 36 (.int .i64 q) (.slice none 0 0) (.slice none 0 0) (.slice none 0 0)
    rw [World.size_alloc, World.size_alloc] at this
    rw [hW, hX]
    exact this
  have hsz : W.heap.size = X + 1 + 1 + 1 := by rw [hW, hX]; simp
  have H : Hid (TreeIn lo w am nm cm av nv cv ak ns cs M V S) := h
  have HS : Hid (SmallT M V S) := hs
  have hnm : nm ≤ 1048576 := by have := h.mem.1.length; have := hs.1; omega
  have hns : ns ≤ 1048576 := by have := h.snaps.length; have := hs.2.2; omega
  have HX : Hid (X = w.heap.size) := hX
  have HK : Hid (Below w.heap.size w W) := kW
  clear h hs kW
  go_enter Tryz.func42, Tryz.ntmps42
  go_wp2_with fail
  rw [← hX, ← hW]
  clear hX hW
  refine (toEntS_any _ _ _ M _ (H.out.keep HK.out).mem.1 hnm).mono ?_
  rintro e w1 ⟨rfl, hE1, _, hb1⟩
  obtain ⟨b1, hbe1⟩ : ∃ b1, b1 = W.heap.size := ⟨_, rfl⟩
  rw [← hbe1] at hE1 ⊢
  obtain ⟨W1, hW1⟩ : ∃ W1, W1 = w1.setCell ⟨X + 1 + 1, 1, none⟩ (.slice (some ⟨b1, 0, none⟩) nm nm) := ⟨_, rfl⟩
  have bo1 : Box4 W1 (X + 1 + 1) (.int .i64 q) (.slice (some ⟨b1, 0, none⟩) nm nm) (.slice none 0 0) (.slice none 0 0) := by rw [hW1]; exact (bo.keep hb1).set1 _
  have bp1 : Box4 W1 X (.int .i64 q) (.slice am nm cm) (.slice av nv cv) (.slice ak ns cs) := by rw [hW1]; exact (bp.keep hb1).other (by omega) _
  have br1 : Box4 W1 (X + 1) (.int .i64 0) (.slice none 0 0) (.slice none 0 0) (.slice none 0 0) := by rw [hW1]; exact (br.keep hb1).other (by omega) _
  have K1 : Hid (Below w.heap.size w W1) := by rw [hW1]; exact (HK.out.trans (hb1.mono HK.out.size)).setCell (p := ⟨X + 1 + 1, 1, none⟩) (by show w.heap.size ≤ X + 1 + 1; have := HX.out; omega) _
  have S1 : Hid (Same (X + 3) W W1) := by rw [hW1]; exact (Same.of_below hb1).trans (Same.of_set _ _ (by show X + 1 + 1 < X + 3; omega))
  have hsz1 : X + 3 ≤ W1.heap.size := by have := S1.out.1; omega
  have E1 : Hid (EntsIn (X + 3) W1 (some ⟨b1, 0, none⟩) nm nm M) := by rw [hW1]; exact EntsIn.same ⟨hE1, fun x e _ => by cases e; show X + 3 ≤ b1; omega⟩ (Same.of_set _ _ (by show X + 1 + 1 < X + 3; omega))
  have vo := (bo.keep hb1).c1
  have vf := (bo.keep hb1).fz
  have vp := (bp.keep hb1).c2
  have vz := (bo.keep hb1).lt
  have vz' : X < w1.heap.size := by omega
  clear hb1 bo bp br hE1 hbe1
  go_wp2_with fail
  rw [← hW1]
  clear hW1 vo vf vp vz vz'
  refine (toRunSS_any lo _ _ _ V _ (H.out.keep K1.out).levels HS.out.2.1).mono ?_
  rintro e w2 ⟨rfl, hE2, _, hb2⟩
  obtain ⟨b2, hbe2⟩ : ∃ b2, b2 = W1.heap.size := ⟨_, rfl⟩
  rw [← hbe2] at hE2 ⊢
  obtain ⟨W2, hW2⟩ : ∃ W2, W2 = w2.setCell ⟨X + 1 + 1, 2, none⟩ (.slice (some ⟨b2, 0, none⟩) nv nv) := ⟨_, rfl⟩
  have bo2 : Box4 W2 (X + 1 + 1) (.int .i64 q) (.slice (some ⟨b1, 0, none⟩) nm nm) (.slice (some ⟨b2, 0, none⟩) nv nv) (.slice none 0 0) := by rw [hW2]; exact (bo1.keep hb2).set2 _
  have bp2 : Box4 W2 X (.int .i64 q) (.slice am nm cm) (.slice av nv cv) (.slice ak ns cs) := by rw [hW2]; exact (bp1.keep hb2).other (by omega) _
  have br2 : Box4 W2 (X + 1) (.int .i64 0) (.slice none 0 0) (.slice none 0 0) (.slice none 0 0) := by rw [hW2]; exact (br1.keep hb2).other (by omega) _
  have K2 : Hid (Below w.heap.size w W2) := by rw [hW2]; exact (K1.out.trans (hb2.mono K1.out.size)).setCell (p := ⟨X + 1 + 1, 2, none⟩) (by show w.heap.size ≤ X + 1 + 1; have := HX.out; omega) _
  have S2 : Hid (Same (X + 3) W1 W2) := by rw [hW2]; exact (Same.of_below hb2).trans (Same.of_set _ _ (by show X + 1 + 1 < X + 3; omega))
  have hsz2 : X + 3 ≤ W2.heap.size := by have := S2.out.1; omega
  have E2 : Hid (LevelsIn (X + 3) W2 (some ⟨b2, 0, none⟩) nv nv V) := by rw [hW2]; exact LevelsIn.same (hE2.mono (by omega)) (Same.of_set _ _ (by show X + 1 + 1 < X + 3; omega))
  have E1 : Hid (EntsIn (X + 3) W2 (some ⟨b1, 0, none⟩) nm nm M) := E1.out.same S2.out
  have vo := (bo1.keep hb2).c2
  have vf := (bo1.keep hb2).fz
  have vp := (bp1.keep hb2).c3
  have vz := (bo1.keep hb2).lt
  have vz' : X < w2.heap.size := by omega
  clear hb2 bo1 bp1 br1 hE2 hbe2
  go_wp2_with fail
  rw [← hW2]
  clear hW2 vo vf vp vz vz'
  refine (toIntS_any lo _ _ _ S _ (H.out.keep K2.out).snaps hns).mono ?_
  rintro e w3 ⟨rfl, hE3, _, hb3⟩
  obtain ⟨b3, hbe3⟩ : ∃ b3, b3 = W2.heap.size := ⟨_, rfl⟩
  rw [← hbe3] at hE3 ⊢
  obtain ⟨W3, hW3⟩ : ∃ W3, W3 = w3.setCell ⟨X + 1 + 1, 3, none⟩ (.slice (some ⟨b3, 0, none⟩) ns ns) := ⟨_, rfl⟩
  have bo3 : Box4 W3 (X + 1 + 1) (.int .i64 q) (.slice (some ⟨b1, 0, none⟩) nm nm) (.slice (some ⟨b2, 0, none⟩) nv nv) (.slice (some ⟨b3, 0, none⟩) ns ns) := by rw [hW3]; exact (bo2.keep hb3).set3 _
  have bp3 : Box4 W3 X (.int .i64 q) (.slice am nm cm) (.slice av nv cv) (.slice ak ns cs) := by rw [hW3]; exact (bp2.keep hb3).other (by omega) _
  have br3 : Box4 W3 (X + 1) (.int .i64 0) (.slice none 0 0) (.slice none 0 0) (.slice none 0 0) := by rw [hW3]; exact (br2.keep hb3).other (by omega) _
  have K3 : Hid (Below w.heap.size w W3) := by rw [hW3]; exact (K2.out.trans (hb3.mono K2.out.size)).setCell (p := ⟨X + 1 + 1, 3, none⟩) (by show w.heap.size ≤ X + 1 + 1; have := HX.out; omega) _
  have S3 : Hid (Same (X + 3) W2 W3) := by rw [hW3]; exact (Same.of_below hb3).trans (Same.of_set _ _ (by show X + 1 + 1 < X + 3; omega))
  have hsz3 : X + 3 ≤ W3.heap.size := by have := S3.out.1; omega
  have E3 : Hid (IntsIn (X + 3) W3 (some ⟨b3, 0, none⟩) ns ns S) := by rw [hW3]; exact IntsIn.same (hE3.lower (by omega)) (Same.of_set _ _ (by show X + 1 + 1 < X + 3; omega))
  have E1 : Hid (EntsIn (X + 3) W3 (some ⟨b1, 0, none⟩) nm nm M) := E1.out.same S3.out
  have E2 : Hid (LevelsIn (X + 3) W3 (some ⟨b2, 0, none⟩) nv nv V) := E2.out.same S3.out
  have vo := (bo2.keep hb3).c3
  have vo0 := (bo2.keep hb3).c0
  have vo1 := (bo2.keep hb3).c1
  have vo2 := (bo2.keep hb3).c2
  have vf := (bo2.keep hb3).fz
  have vr0 := (br2.keep hb3).c0
  have vr1 := (br2.keep hb3).c1
  have vr2 := (br2.keep hb3).c2
  have vr3 := (br2.keep hb3).c3
  have vrf := (br2.keep hb3).fz
  have vz := (bo2.keep hb3).lt
  have vz' : X + 1 < w3.heap.size := by omega
  clear hb3 bo2 bp2 br2 hE3 hbe3
  go_wp2
  rw [← hW3]
  refine bodyPost_ret (v := .agg #[.int .i64 q, .slice (some ⟨b1, 0, none⟩) nm nm, .slice (some ⟨b2, 0, none⟩) nv nv, .slice (some ⟨b3, 0, none⟩) ns ns]) ?_ rfl ⟨b1, b2, b3, rfl, ?_, ?_⟩
  · have c0 := (((br3.set0 (.int .i64 q)).set1 (.slice (some ⟨b1, 0, none⟩) nm nm)).set2 (.slice (some ⟨b2, 0, none⟩) nv nv)).set3 (.slice (some ⟨b3, 0, none⟩) ns ns)
    simp [results, Tryz.results42, go_sem, c0.c0, c0.c1, c0.c2, c0.c3]
  · have hm : Same (X + 3) W3 ((((W3.setCell ⟨X + 1, 0, none⟩ (.int .i64 q)).setCell ⟨X + 1, 1, none⟩ (.slice (some ⟨b1, 0, none⟩) nm nm)).setCell ⟨X + 1, 2, none⟩ (.slice (some ⟨b2, 0, none⟩) nv nv)).setCell ⟨X + 1, 3, none⟩ (.slice (some ⟨b3, 0, none⟩) ns ns)) := (((Same.of_set _ _ (by show X + 1 < X + 3; omega)).trans (Same.of_set _ _ (by show X + 1 < X + 3; omega))).trans (Same.of_set _ _ (by show X + 1 < X + 3; omega))).trans (Same.of_set _ _ (by show X + 1 < X + 3; omega))
    have hx := HX.out
    exact ⟨(E1.out.same hm).mono (by omega), (E2.out.same hm).mono (by omega), (E3.out.same hm).lower (by omega)⟩
  · have hx : w.heap.size ≤ X + 1 := by have := HX.out; omega
    exact (((K3.out.setCell (p := ⟨X + 1, 0, none⟩) hx _).setCell (p := ⟨X + 1, 1, none⟩) hx _).setCell (p := ⟨X + 1, 2, none⟩) hx _).setCell (p := ⟨X + 1, 3, none⟩) hx _
end Go.Proofs.YtapjkbpfhmbfaaaGreatDoor

namespace Go.Proofs.YtapjkbpfhmbfaaaGreatDoor
open Go.RowKit
set_option maxRecDepth 100000
set_option maxHeartbeats 4000000
structure Box6 (w : World) (b : Nat) (u0 u1 u2 u3 u4 u5 : Value) : Prop where
  c0 : w.cell? ⟨b, 0, none⟩ = some u0
  c1 : w.cell? ⟨b, 1, none⟩ = some u1
  c2 : w.cell? ⟨b, 2, none⟩ = some u2
  c3 : w.cell? ⟨b, 3, none⟩ = some u3
  c4 : w.cell? ⟨b, 4, none⟩ = some u4
  c5 : w.cell? ⟨b, 5, none⟩ = some u5
  fz : ∀ o, w.frozen? ⟨b, o, none⟩ = false
theorem Box6.lt {w : World} {b : Nat} {u0 u1 u2 u3 u4 u5 : Value} (h : Box6 w b u0 u1 u2 u3 u4 u5) : b < w.heap.size := World.block_lt_of_cell? w _ h.c0
theorem Box6.new (w : World) (t : TypeId) (u0 u1 u2 u3 u4 u5 : Value) : Box6 (w.alloc (.cells #[u0, u1, u2, u3, u4, u5] t)) w.heap.size u0 u1 u2 u3 u4 u5 := ⟨by simp, by simp, by simp, by simp, by simp, by simp, fun o => by simp⟩
theorem Box6.below {B : Nat} {w w' : World} {b : Nat} {u0 u1 u2 u3 u4 u5 : Value} (h : Box6 w b u0 u1 u2 u3 u4 u5) (hb : Below B w w') (hB : b < B) : Box6 w' b u0 u1 u2 u3 u4 u5 :=
  ⟨(hb.cell (p := ⟨b, 0, none⟩) hB).trans h.c0, (hb.cell (p := ⟨b, 1, none⟩) hB).trans h.c1, (hb.cell (p := ⟨b, 2, none⟩) hB).trans h.c2, (hb.cell (p := ⟨b, 3, none⟩) hB).trans h.c3, (hb.cell (p := ⟨b, 4, none⟩) hB).trans h.c4, (hb.cell (p := ⟨b, 5, none⟩) hB).trans h.c5, fun o => (World.frozen?_of_block (hb.block b hB)).trans (h.fz o)⟩
theorem Box6.keep {w w' : World} {b : Nat} {u0 u1 u2 u3 u4 u5 : Value} (h : Box6 w b u0 u1 u2 u3 u4 u5) (hb : Below w.heap.size w w') : Box6 w' b u0 u1 u2 u3 u4 u5 := h.below hb h.lt
theorem Box6.alloc {w : World} {b : Nat} {u0 u1 u2 u3 u4 u5 : Value} (h : Box6 w b u0 u1 u2 u3 u4 u5) (o : Obj) : Box6 (w.alloc o) b u0 u1 u2 u3 u4 u5 := h.keep ((Below.refl _ _).alloc (Nat.le_refl _) _)
theorem Box6.other {w : World} {b : Nat} {u0 u1 u2 u3 u4 u5 : Value} (h : Box6 w b u0 u1 u2 u3 u4 u5) {b' o : Nat} (hp : b' ≠ b) (x : Value) : Box6 (w.setCell ⟨b', o, none⟩ x) b u0 u1 u2 u3 u4 u5 :=
  ⟨(cell_elsewhere x (fun e => hp e.1.symm)).trans h.c0, (cell_elsewhere x (fun e => hp e.1.symm)).trans h.c1, (cell_elsewhere x (fun e => hp e.1.symm)).trans h.c2, (cell_elsewhere x (fun e => hp e.1.symm)).trans h.c3, (cell_elsewhere x (fun e => hp e.1.symm)).trans h.c4, (cell_elsewhere x (fun e => hp e.1.symm)).trans h.c5, fun o => by rw [World.frozen?_setCell]; exact h.fz o⟩
theorem Box6.set0 {w : World} {b : Nat} {u0 u1 u2 u3 u4 u5 : Value} (h : Box6 w b u0 u1 u2 u3 u4 u5) (x : Value) : Box6 (w.setCell ⟨b, 0, none⟩ x) b x u1 u2 u3 u4 u5 :=
  ⟨World.cell?_setCell_same' _ _ _ (by rw [h.c0]; rfl), (cell_elsewhere x (by simp)).trans h.c1, (cell_elsewhere x (by simp)).trans h.c2, (cell_elsewhere x (by simp)).trans h.c3, (cell_elsewhere x (by simp)).trans h.c4, (cell_elsewhere x (by simp)).trans h.c5, fun o => by rw [World.frozen?_setCell]; exact h.fz o⟩
theorem Box6.set1 {w : World} {b : Nat} {u0 u1 u2 u3 u4 u5 : Value} (h : Box6 w b u0 u1 u2 u3 u4 u5) (x : Value) : Box6 (w.setCell ⟨b, 1, none⟩ x) b u0 x u2 u3 u4 u5 :=
  ⟨(cell_elsewhere x (by simp)).trans h.c0, World.cell?_setCell_same' _ _ _ (by rw [h.c1]; rfl), (cell_elsewhere x (by simp)).trans h.c2, (cell_elsewhere x (by simp)).trans h.c3, (cell_elsewhere x (by simp)).trans h.c4, (cell_elsewhere x (by simp)).trans h.c5, fun o => by rw [World.frozen?_setCell]; exact h.fz o⟩
theorem Box6.set2 {w : World} {b : Nat} {u0 u1 u2 u3 u4 u5 : Value} (h : Box6 w b u0 u1 u2 u3 u4 u5) (x : Value) : Box6 (w.setCell ⟨b, 2, none⟩ x) b u0 u1 x u3 u4 u5 :=
  ⟨(cell_elsewhere x (by simp)).trans h.c0, (cell_elsewhere x (by simp)).trans h.c1, World.cell?_setCell_same' _ _ _ (by rw [h.c2]; rfl), (cell_elsewhere x (by simp)).trans h.c3, (cell_elsewhere x (by simp)).trans h.c4, (cell_elsewhere x (by simp)).trans h.c5, fun o => by rw [World.frozen?_setCell]; exact h.fz o⟩
theorem Box6.set3 {w : World} {b : Nat} {u0 u1 u2 u3 u4 u5 : Value} (h : Box6 w b u0 u1 u2 u3 u4 u5) (x : Value) : Box6 (w.setCell ⟨b, 3, none⟩ x) b u0 u1 u2 x u4 u5 :=
  ⟨(cell_elsewhere x (by simp)).trans h.c0, (cell_elsewhere x (by simp)).trans h.c1, (cell_elsewhere x (by simp)).trans h.c2, World.cell?_setCell_same' _ _ _ (by rw [h.c3]; rfl), (cell_elsewhere x (by simp)).trans h.c4, (cell_elsewhere x (by simp)).trans h.c5, fun o => by rw [World.frozen?_setCell]; exact h.fz o⟩
theorem Box6.set4 {w : World} {b : Nat} {u0 u1 u2 u3 u4 u5 : Value} (h : Box6 w b u0 u1 u2 u3 u4 u5) (x : Value) : Box6 (w.setCell ⟨b, 4, none⟩ x) b u0 u1 u2 u3 x u5 :=
  ⟨(cell_elsewhere x (by simp)).trans h.c0, (cell_elsewhere x (by simp)).trans h.c1, (cell_elsewhere x (by simp)).trans h.c2, (cell_elsewhere x (by simp)).trans h.c3, World.cell?_setCell_same' _ _ _ (by rw [h.c4]; rfl), (cell_elsewhere x (by simp)).trans h.c5, fun o => by rw [World.frozen?_setCell]; exact h.fz o⟩
theorem Box6.set5 {w : World} {b : Nat} {u0 u1 u2 u3 u4 u5 : Value} (h : Box6 w b u0 u1 u2 u3 u4 u5) (x : Value) : Box6 (w.setCell ⟨b, 5, none⟩ x) b u0 u1 u2 u3 u4 x :=
  ⟨(cell_elsewhere x (by simp)).trans h.c0, (cell_elsewhere x (by simp)).trans h.c1, (cell_elsewhere x (by simp)).trans h.c2, (cell_elsewhere x (by simp)).trans h.c3, (cell_elsewhere x (by simp)).trans h.c4, World.cell?_setCell_same' _ _ _ (by rw [h.c5]; rfl), fun o => by rw [World.frozen?_setCell]; exact h.fz o⟩
theorem implShare (lo : Nat) (sq : Int) (am ak : Option Addr) (nm cm b o cv nk ck : Nat) (M : List EntD) (A B C : List RunD) (S : List Int) (a0 a1 a2 : Option Addr) (n0 c0 n1 c1 n2 c2 : Nat) (w : World) (hM : EntsAt w am nm cm M) (hS : IntsIn lo w ak nk ck S) (h0 : RunsIn lo w a0 n0 c0 A) (h1 : RunsIn lo w a1 n1 c1 B) (h2 : RunsIn lo w a2 n2 c2 C)
    (l0 : w.cell? ⟨b, o, none⟩ = some (.slice a0 n0 c0)) (l1 : w.cell? ⟨b, o + 1, none⟩ = some (.slice a1 n1 c1)) (l2 : w.cell? ⟨b, o + 2, none⟩ = some (.slice a2 n2 c2)) :
    Calls Tryz.prog 90 #[.agg #[.int .i64 sq, .slice am nm cm, .slice (some ⟨b, o, none⟩) 3 cv, .slice ak nk ck]] w fun e w' => e = .returned (.tuple #[.agg #[.int .i64 sq, .slice am nm cm, .slice a0 n0 c0, .slice a1 n1 c1, .slice a2 n2 c2, .slice ak nk ck], .bool (treeB sq M [A, B, C] S)]) ∧ Below w.heap.size w w' := by
  have hbw := World.block_lt_of_cell? _ _ l0
  simp only at hbw
  obtain ⟨X, hX⟩ : ∃ X, X = w.heap.size := ⟨_, rfl⟩
  obtain ⟨W, hW⟩ : ∃ W, W = ((w.alloc (.cells #[.int .i64 sq, .slice am nm cm, .slice (some ⟨b, o, none⟩) 3 cv, .slice ak nk ck] 36)).alloc (.cells #[.int .i64 0, .slice none 0 0, .slice none 0 0, .slice none 0 0, .slice none 0 0, .slice none 0 0] 67)).alloc (.cells #[.int .i64 sq, .slice am nm cm, .slice none 0 0, .slice none 0 0, .slice none 0 0, .slice ak nk ck] 67) := ⟨_, rfl⟩
  have kW : Below w.heap.size w W := by rw [hW]; exact (((Below.refl _ _).alloc (Nat.le_refl _) _).alloc (by simp) _).alloc (by simp; omega) _
  have xa : (w.alloc (.cells #[.int .i64 sq, .slice am nm cm, .slice (some ⟨b, o, none⟩) 3 cv, .slice ak nk ck] 36)).cell? ⟨X, 2, none⟩ = some (.slice (some ⟨b, o, none⟩) 3 cv) := by rw [hX]; simp
  have x2 : W.cell? ⟨X, 2, none⟩ = some (.slice (some ⟨b, o, none⟩) 3 cv) := by
    rw [hW]
    exact cell_later ((Below.refl _ _).alloc (Nat.le_refl _) _) (cell_later ((Below.refl _ _).alloc (Nat.le_refl _) _) xa)
  have br : Box6 W (X + 1) (.int .i64 0) (.slice none 0 0) (.slice none 0 0) (.slice none 0 0) (.slice none 0 0) (.slice none 0 0) := by
    have := (Box6.new (w.alloc (.cells #[.int .i64 sq, .slice am nm cm, .slice (some ⟨b, o, none⟩) 3 cv, .slice ak nk ck] 36)) 67 (.int .i64 0) (.slice none 0 0) (.slice none 0 0) (.slice none 0 0) (.slice none 0 0) (.slice none 0 0)).alloc (.cells #[.int .i64 sq, .slice am nm cm, .slice none 0 0, .slice none 0 0, .slice none 0 0, .slice ak nk ck] 67)
    rw [World.size_alloc] at this
    rw [hW, hX]
    exact this
  have bs : Box6 W (X + 1 + 1) (.int .i64 sq) (.slice am nm cm) (.slice none 0 0) (.slice none 0 0) (.slice none 0 0) (.slice ak nk ck) := by
    have := Box6.new ((w.alloc (.cells #[.int .i64 sq, .slice am nm cm, .slice (some ⟨b, o, none⟩) 3 cv, .slice ak nk ck] 36)).alloc (.cells #[.int .i64 0, .slice none 0 0, .slice none 0 0, .slice none 0 0, .slice none 0 0, .slice none 0 0] 67)) 67 (.int .i64 sq) (.slice am nm cm) (.slice none 0 0) (.slice none 0 0) (.slice none 0 0) (.slice ak nk ck)
    rw [World.size_alloc, World.size_alloc] at this
    rw [hW, hX]
    exact this
  have k0 := cell_later kW l0
  have k1 := cell_later kW l1
  have k2 := cell_later kW l2
  have hcp : (Builtin.copy_ #[34, 34] 3 #[.slice (some ⟨X + 1 + 1, 2, none⟩) 3 3, .slice (some ⟨b, o, none⟩) 3 cv]).run Tryz.prog W.drew = .ok (goInt 3) (W.drew.setCells (X + 1 + 1) 2 [.slice a0 n0 c0, .slice a1 n1 c1, .slice a2 n2 c2]) := by
    refine run_copy_cells (P := Tryz.prog) W.drew 34 34 3 64 (X + 1 + 1) 2 3 3 ⟨b, o, none⟩ 3 cv [.slice a0 n0 c0, .slice a1 n1 c1, .slice a2 n2 c2] Tryz.underlying34 (by kernel_rfl) rfl ?_ ?_ ?_ ?_
    · intro j v hj
      rw [Go.WideShapes.add_plain]
      match j, hj with
      | 0, hj => simp at hj; subst hj; exact k0
      | 1, hj => simp at hj; subst hj; exact k1
      | 2, hj => simp at hj; subst hj; exact k2
    · intro j hj
      match j, hj with
      | 0, _ => exact Option.isSome_iff_exists.2 ⟨_, bs.c2⟩
      | 1, _ => exact Option.isSome_iff_exists.2 ⟨_, bs.c3⟩
      | 2, _ => exact Option.isSome_iff_exists.2 ⟨_, bs.c4⟩
    · exact fun j _ => bs.fz _
    · intro v hv
      simp at hv
      rcases hv with rfl | rfl | rfl <;> rfl
  have HM : Hid (EntsAt w am nm cm M) := hM
  have HS : Hid (IntsIn lo w ak nk ck S) := hS
  have H0 : Hid (RunsIn lo w a0 n0 c0 A) := h0
  have H1 : Hid (RunsIn lo w a1 n1 c1 B) := h1
  have H2 : Hid (RunsIn lo w a2 n2 c2 C) := h2
  have KW : Hid (Below w.heap.size w W) := kW
  have HX : Hid (X = w.heap.size) := hX
  clear hM hS h0 h1 h2 kW l0 l1 l2 k0 k1 k2 xa
  go_enter Tryz.func90, Tryz.ntmps90
  go_upto_region 4 with fail
  rw [← hX, ← hW]
  clear hX hW
  have zX : X < W.heap.size := World.block_lt_of_cell? _ _ x2
  have zS := bs.lt
  go_region_with (fail)
  obtain ⟨W2, hW2⟩ : ∃ W2, W2 = W.drew.setCells (X + 1 + 1) 2 [.slice a0 n0 c0, .slice a1 n1 c1, .slice a2 n2 c2] := ⟨_, rfl⟩
  have hW2' : W2 = ((W.drew.setCell ⟨X + 1 + 1, 2, none⟩ (.slice a0 n0 c0)).setCell ⟨X + 1 + 1, 3, none⟩ (.slice a1 n1 c1)).setCell ⟨X + 1 + 1, 4, none⟩ (.slice a2 n2 c2) := by rw [hW2]; rfl
  have bs2 : Box6 W2 (X + 1 + 1) (.int .i64 sq) (.slice am nm cm) (.slice a0 n0 c0) (.slice a1 n1 c1) (.slice a2 n2 c2) (.slice ak nk ck) := by
    have d : Box6 W.drew (X + 1 + 1) (.int .i64 sq) (.slice am nm cm) (.slice none 0 0) (.slice none 0 0) (.slice none 0 0) (.slice ak nk ck) := ⟨bs.c0, bs.c1, bs.c2, bs.c3, bs.c4, bs.c5, bs.fz⟩
    rw [hW2']
    exact ((d.set2 _).set3 _).set4 _
  have br2 : Box6 W2 (X + 1) (.int .i64 0) (.slice none 0 0) (.slice none 0 0) (.slice none 0 0) (.slice none 0 0) (.slice none 0 0) := by
    have d : Box6 W.drew (X + 1) (.int .i64 0) (.slice none 0 0) (.slice none 0 0) (.slice none 0 0) (.slice none 0 0) (.slice none 0 0) := ⟨br.c0, br.c1, br.c2, br.c3, br.c4, br.c5, br.fz⟩
    rw [hW2']
    exact ((d.other (by omega) _).other (by omega) _).other (by omega) _
  have K2 : Hid (Below w.heap.size w W2) := by
    have hx : w.heap.size ≤ X + 1 + 1 := by have := HX.out; omega
    rw [hW2']
    exact ((KW.out.drew.setCell (p := ⟨X + 1 + 1, 2, none⟩) hx _).setCell (p := ⟨X + 1 + 1, 3, none⟩) hx _).setCell (p := ⟨X + 1 + 1, 4, none⟩) hx _
  rw [← hW2]
  clear hW2 hW2' hcp x2 bs br zS zX KW hbw
  have HBR : Hid (Box6 W2 (X + 1) (.int .i64 0) (.slice none 0 0) (.slice none 0 0) (.slice none 0 0) (.slice none 0 0) (.slice none 0 0)) := br2
  have y0 := bs2.c0
  have y1 := bs2.c1
  have y2 := bs2.c2
  have y3 := bs2.c3
  have y4 := bs2.c4
  have y5 := bs2.c5
  have zS := bs2.lt
  have HBS : Hid (Box6 W2 (X + 1 + 1) (.int .i64 sq) (.slice am nm cm) (.slice a0 n0 c0) (.slice a1 n1 c1) (.slice a2 n2 c2) (.slice ak nk ck)) := bs2
  clear br2 bs2
  go_upto_region 5 with fail
  go_region_with (go_at_call 89; refine (implIsOk lo sq am ak nm cm nk ck a0 a1 a2 n0 c0 n1 c1 n2 c2 M A B C S _ (HM.out.keep K2.out.drew) (HS.out.keep K2.out.drew) (H0.out.keep K2.out.drew) (H1.out.keep K2.out.drew) (H2.out.keep K2.out.drew)).mono ?_; rintro e w5 ⟨rfl, hb5⟩; have k5 : Below W2.heap.size W2 w5 := ((Below.refl _ W2).drew).trans hb5; have y0' := cell_later k5 y0; have y1' := cell_later k5 y1; have y2' := cell_later k5 y2; have y3' := cell_later k5 y3; have y4' := cell_later k5 y4; have y5' := cell_later k5 y5; have zS' := Nat.lt_of_lt_of_le zS k5.size; have r0 := (HBR.out.keep k5).c0; have r1 := (HBR.out.keep k5).c1; have r2 := (HBR.out.keep k5).c2; have r3 := (HBR.out.keep k5).c3; have r4 := (HBR.out.keep k5).c4; have r5 := (HBR.out.keep k5).c5; have rf := (HBR.out.keep k5).fz; have rz := (HBR.out.keep k5).lt)
  all_goals
    go_wp2
    refine bodyPost_ret (v := .tuple #[.agg #[.int .i64 sq, .slice am nm cm, .slice a0 n0 c0, .slice a1 n1 c1, .slice a2 n2 c2, .slice ak nk ck], .bool (treeB sq M [A, B, C] S)]) ?_ rfl ⟨rfl, ?_⟩
    · have c := ((((((HBR.out.keep k5).set0 (.int .i64 sq)).set1 (.slice am nm cm)).set2 (.slice a0 n0 c0)).set3 (.slice a1 n1 c1)).set4 (.slice a2 n2 c2)).set5 (.slice ak nk ck)
      simp [results, Tryz.results90, go_sem, c.c0, c.c1, c.c2, c.c3, c.c4, c.c5]
    · have hx : w.heap.size ≤ X + 1 := by have := HX.out; omega
      have K5 := K2.out.trans (k5.mono K2.out.size)
      exact (((((K5.setCell (p := ⟨X + 1, 0, none⟩) hx _).setCell (p := ⟨X + 1, 1, none⟩) hx _).setCell (p := ⟨X + 1, 2, none⟩) hx _).setCell (p := ⟨X + 1, 3, none⟩) hx _).setCell (p := ⟨X + 1, 4, none⟩) hx _).setCell (p := ⟨X + 1, 5, none⟩) hx _
theorem implShareNo (sq : Int) (am av ak : Option Addr) (nm cm nv cv nk ck : Nat) (w : World) (hn : ¬ nv = 3) :
    Calls Tryz.prog 90 #[.agg #[.int .i64 sq, .slice am nm cm, .slice av nv cv, .slice ak nk ck]] w fun e w' => e = .returned (.tuple #[.agg #[.int .i64 0, .slice none 0 0, .slice none 0 0, .slice none 0 0, .slice none 0 0, .slice none 0 0], .bool false]) ∧ Below w.heap.size w w' := by
  have hnI : ¬ (nv : Int) = 3 := by omega
  have hnb : ((nv : Int) == 3) = false := by simpa using hnI
  obtain ⟨W, hW⟩ : ∃ W, W = (w.alloc (.cells #[.int .i64 sq, .slice am nm cm, .slice av nv cv, .slice ak nk ck] 36)).alloc (.cells #[.int .i64 0, .slice none 0 0, .slice none 0 0, .slice none 0 0, .slice none 0 0, .slice none 0 0] 67) := ⟨_, rfl⟩
  have kW : Below w.heap.size w W := by rw [hW]; exact ((Below.refl _ _).alloc (Nat.le_refl _) _).alloc (by simp) _
  have br : Box6 W (w.heap.size + 1) (.int .i64 0) (.slice none 0 0) (.slice none 0 0) (.slice none 0 0) (.slice none 0 0) (.slice none 0 0) := by
    have := Box6.new (w.alloc (.cells #[.int .i64 sq, .slice am nm cm, .slice av nv cv, .slice ak nk ck] 36)) 67 (.int .i64 0) (.slice none 0 0) (.slice none 0 0) (.slice none 0 0) (.slice none 0 0) (.slice none 0 0)
    rw [World.size_alloc] at this
    rw [hW]
    exact this
  go_enter Tryz.func90, Tryz.ntmps90
  go_upto_region 2 with fail
  rw [← hW]
  clear hW
  have r0 := br.c0
  have r1 := br.c1
  have r2 := br.c2
  have r3 := br.c3
  have r4 := br.c4
  have r5 := br.c5
  have rf := br.fz
  have rz := br.lt
  go_wp2
  refine bodyPost_ret (v := .tuple #[.agg #[.int .i64 0, .slice none 0 0, .slice none 0 0, .slice none 0 0, .slice none 0 0, .slice none 0 0], .bool false]) ?_ rfl ⟨rfl, ?_⟩
  · have c := (((((br.set0 (.int .i64 0)).set1 (.slice none 0 0)).set2 (.slice none 0 0)).set3 (.slice none 0 0)).set4 (.slice none 0 0)).set5 (.slice none 0 0)
    simp [results, Tryz.results90, go_sem, c.c0, c.c1, c.c2, c.c3, c.c4, c.c5]
  · have hx : w.heap.size ≤ w.heap.size + 1 := by omega
    exact (((((kW.setCell (p := ⟨w.heap.size + 1, 0, none⟩) hx _).setCell (p := ⟨w.heap.size + 1, 1, none⟩) hx _).setCell (p := ⟨w.heap.size + 1, 2, none⟩) hx _).setCell (p := ⟨w.heap.size + 1, 3, none⟩) hx _).setCell (p := ⟨w.heap.size + 1, 4, none⟩) hx _).setCell (p := ⟨w.heap.size + 1, 5, none⟩) hx _
end Go.Proofs.YtapjkbpfhmbfaaaGreatDoor

namespace Go.Proofs.YtapjkbpfhmbfaaaGreatDoor
open Go.RowKit
theorem sort_snoc (L : List EntD) (e : EntD) : sortE (L ++ [e]) = putE (sortE L) e := by simp [sortE]
theorem flat_next {P : List (List EntD)} {i : Nat} {L : List EntD} (h : P[i]? = some L) : (P.take (i + 1)).flatten = (P.take i).flatten ++ L.take L.length := by
  rw [List.take_add_one, h]
  simp
theorem mFlat_le {P : List (List EntD)} {i k : Nat} {L : List EntD} (h : P[i]? = some L) : ((P.take i).flatten ++ L.take k).length ≤ P.flatten.length := by
  have h1 : P.flatten = (P.take (i + 1)).flatten ++ (P.drop (i + 1)).flatten := by rw [← List.flatten_append, List.take_append_drop]
  rw [h1, flat_next h, List.length_append, List.length_append, List.length_append, List.length_take, List.length_take]
  omega
end Go.Proofs.YtapjkbpfhmbfaaaGreatDoor
