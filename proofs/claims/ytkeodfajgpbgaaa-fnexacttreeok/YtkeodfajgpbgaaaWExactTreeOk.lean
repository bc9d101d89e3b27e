/-
  The walk of the law FnExactTreeOk: it answers true at every tree.
-/
import Derived.Test.YtkeodfajgpbgaaaShare
import Derived.Deep.RegionWith
import Derived.Deep.DeepCutAuto
namespace Go.Proofs.Ytkeodfajgpbgaaa
open Go.RowKit

theorem TreeIn.low1 {lo : Nat} {w : World} {am av ak : Option Addr} {nm cm nv cv ns cs : Nat} {M : List EntD} {V : List (List RunD)} {S : List Int} (h : TreeIn lo w am nm cm av nv cv ak ns cs M V S) : TreeIn 0 w am nm cm av nv cv ak ns cs M V S := ⟨h.mem.mono (Nat.zero_le _), h.levels.mono (Nat.zero_le _), h.snaps.lower (Nat.zero_le _)⟩

/-- The law answers true. -/
def ExR1 (w : World) (e : Ending) (w' : World) : Prop := e = .returned (.bool true) ∧ Below w.heap.size w w'

set_option maxRecDepth 100000 in
set_option maxHeartbeats 4000000 in
theorem walkFnExactTreeOk (q1 : Int) (m1 : Option Addr) (nm1 cm1 : Nat) (v1 : Option Addr) (nv1 cv1 : Nat) (k1 : Option Addr) (ns1 cs1 : Nat) (M1 : List EntD) (V1 : List (List RunD)) (S1 : List Int) (w : World) (w0 : (Lit.int .i64 q1).wf = true ∧ TreeIn 0 w m1 nm1 cm1 v1 nv1 cv1 k1 ns1 cs1 M1 V1 S1) :
    Calls Try.prog 3 #[.agg #[.int .i64 q1, .slice m1 nm1 cm1, .slice v1 nv1 cv1, .slice k1 ns1 cs1]] w fun e w' => e = .returned (.bool true) ∧ Below w.heap.size w w' := by
  show Calls _ _ _ w (ExR1 w)
  obtain ⟨_, hT1⟩ := w0
  have H1 : Hid (TreeIn 0 w m1 nm1 cm1 v1 nv1 cv1 k1 ns1 cs1 M1 V1 S1) := hT1
  clear hT1
  obtain ⟨X, hX⟩ : ∃ X, X = w.heap.size := ⟨_, rfl⟩
  obtain ⟨W, hW⟩ : ∃ W, W = w.alloc (.cells #[.int .i64 q1, .slice m1 nm1 cm1, .slice v1 nv1 cv1, .slice k1 ns1 cs1] 26) := ⟨_, rfl⟩
  have kW : Below w.heap.size w W := by rw [hW]; exact (Below.refl _ _).alloc (Nat.le_refl _) _
  have bx : Box4 W X (.int .i64 q1) (.slice m1 nm1 cm1) (.slice v1 nv1 cv1) (.slice k1 ns1 cs1) := by rw [hW, hX]; exact Box4.new _ _ _ _ _ _
  have K0 : Hid (Below w.heap.size w W) := kW
  have BX : Hid (Box4 W X (.int .i64 q1) (.slice m1 nm1 cm1) (.slice v1 nv1 cv1) (.slice k1 ns1 cs1)) := bx
  clear kW bx
  go_enter Try.func3, Try.ntmps3
  go_wp2_with fail
  rw [← hX, ← hW]
  clear hW hX
  refine (szTree_any _ 0 _ _ _ _ _ _ _ _ _ M1 V1 S1 _ _ (H1.out.keep K0.out) (by omega) (by omega)).mono ?_
  rintro e w4 ⟨r, rfl, hr, hb3⟩
  have K4 : Hid (Below w.heap.size w w4) := K0.out.trans (hb3.mono K0.out.size)
  have BX4 : Hid (Box4 w4 X (.int .i64 q1) (.slice m1 nm1 cm1) (.slice v1 nv1 cv1) (.slice k1 ns1 cs1)) := BX.out.keep hb3
  clear hb3 BX
  rcases hr with rfl | ⟨hr0, hr1, hsm1⟩
  · go_wp2
    go_ret
    exact ⟨rfl, K4.out⟩
  have SM1 : Hid (SmallT M1 V1 S1) := hsm1
  clear hsm1 hr1
  obtain ⟨Z, hZ⟩ : ∃ Z, Z = treeB q1 M1 V1 S1 := ⟨_, rfl⟩
  have HZ : Hid (treeB q1 M1 V1 S1 = Z) := hZ.symm
  clear hZ
  have x0 := BX4.out.c0
  have x1 := BX4.out.c1
  have x2 := BX4.out.c2
  have x3 := BX4.out.c3
  have xz := BX4.out.lt
  go_wp2_with fail
  clear x0 x1 x2 x3 xz
  refine (toTree_any q1 0 _ _ _ _ _ _ _ _ _ M1 V1 S1 _ (H1.out.keep K4.out) SM1.out).mono ?_
  rintro e w5 ⟨a5, b5, c5, rfl, hT5, hb5⟩
  have K5 : Hid (Below w.heap.size w w5) := K4.out.trans (hb5.mono K4.out.size)
  have BX5 : Hid (Box4 w5 X (.int .i64 q1) (.slice m1 nm1 cm1) (.slice v1 nv1 cv1) (.slice k1 ns1 cs1)) := BX4.out.keep hb5
  have T5 : Hid (TreeIn 0 w5 (some ⟨a5, 0, none⟩) nm1 nm1 (some ⟨b5, 0, none⟩) nv1 nv1 (some ⟨c5, 0, none⟩) ns1 ns1 M1 V1 S1) := hT5.low1
  clear hb5 hT5 BX4 K4
  go_wp2_with fail
  refine (specTreeOk 0 q1 _ _ _ _ _ _ _ _ _ M1 V1 S1 _ T5.out).mono ?_
  rw [HZ.out]
  rintro e w6 ⟨rfl, hb6⟩
  have K6 : Hid (Below w.heap.size w w6) := K5.out.trans (hb6.mono K5.out.size)
  have BX6 : Hid (Box4 w6 X (.int .i64 q1) (.slice m1 nm1 cm1) (.slice v1 nv1 cv1) (.slice k1 ns1 cs1)) := BX5.out.keep hb6
  clear hb6 BX5 K5 T5
  have x0 := BX6.out.c0
  have x1 := BX6.out.c1
  have x2 := BX6.out.c2
  have x3 := BX6.out.c3
  have xz := BX6.out.lt
  go_wp2_with fail
  clear x0 x1 x2 x3 xz
  refine (toTree_any q1 0 _ _ _ _ _ _ _ _ _ M1 V1 S1 _ (H1.out.keep K6.out) SM1.out).mono ?_
  rintro e w8 ⟨a8, b8, c8, rfl, hT8, hb8⟩
  obtain ⟨Y, hY⟩ : ∃ Y, Y = w8.heap.size := ⟨_, rfl⟩
  obtain ⟨W8, hW8⟩ : ∃ W8, W8 = w8.alloc (.cells #[.int .i64 q1, .slice (some ⟨a8, 0, none⟩) nm1 nm1, .slice (some ⟨b8, 0, none⟩) nv1 nv1, .slice (some ⟨c8, 0, none⟩) ns1 ns1] 32) := ⟨_, rfl⟩
  have k8 : Below w8.heap.size w8 W8 := by rw [hW8]; exact (Below.refl _ _).alloc (Nat.le_refl _) _
  have K8 : Hid (Below w.heap.size w W8) := (K6.out.trans (hb8.mono K6.out.size)).trans (k8.mono (Nat.le_trans K6.out.size hb8.size))
  have T8 : Hid (TreeIn 0 W8 (some ⟨a8, 0, none⟩) nm1 nm1 (some ⟨b8, 0, none⟩) nv1 nv1 (some ⟨c8, 0, none⟩) ns1 ns1 M1 V1 S1) := (hT8.low1).keep k8
  have BX8 : Hid (Box4 W8 X (.int .i64 q1) (.slice m1 nm1 cm1) (.slice v1 nv1 cv1) (.slice k1 ns1 cs1)) := (BX6.out.keep hb8).keep k8
  have BY8 : Hid (Box4 W8 Y (.int .i64 q1) (.slice (some ⟨a8, 0, none⟩) nm1 nm1) (.slice (some ⟨b8, 0, none⟩) nv1 nv1) (.slice (some ⟨c8, 0, none⟩) ns1 ns1)) := by rw [hW8, hY]; exact Box4.new _ _ _ _ _ _
  clear hb8 hT8 BX6 K6 k8
  go_wp2_with fail
  rw [← hW8]
  try rw [← hY]
  clear hW8 hY
  refine (implTreeOk 0 q1 _ _ _ _ _ _ _ _ _ M1 V1 S1 _ T8.out).mono ?_
  rw [HZ.out]
  rintro e w12 ⟨rfl, hb12⟩
  have K12 : Hid (Below w.heap.size w w12) := K8.out.trans (hb12.mono K8.out.size)
  have T12 : Hid (TreeIn 0 w12 (some ⟨a8, 0, none⟩) nm1 nm1 (some ⟨b8, 0, none⟩) nv1 nv1 (some ⟨c8, 0, none⟩) ns1 ns1 M1 V1 S1) := T8.out.keep hb12
  have BX12 : Hid (Box4 w12 X (.int .i64 q1) (.slice m1 nm1 cm1) (.slice v1 nv1 cv1) (.slice k1 ns1 cs1)) := BX8.out.keep hb12
  have BY12 : Hid (Box4 w12 Y (.int .i64 q1) (.slice (some ⟨a8, 0, none⟩) nm1 nm1) (.slice (some ⟨b8, 0, none⟩) nv1 nv1) (.slice (some ⟨c8, 0, none⟩) ns1 ns1)) := BY8.out.keep hb12
  clear hb12 BX8 BY8 K8 T8
  have x0 := BX12.out.c0
  have x1 := BX12.out.c1
  have x2 := BX12.out.c2
  have x3 := BX12.out.c3
  have xz := BX12.out.lt
  have y0 := BY12.out.c0
  have y1 := BY12.out.c1
  have y2 := BY12.out.c2
  have y3 := BY12.out.c3
  have yz := BY12.out.lt
  go_upto_region 10 with fail
  go_region_with (first
    | (go_at_call 14; refine (toTree_any q1 0 m1 v1 k1 nm1 cm1 nv1 cv1 ns1 cs1 M1 V1 S1 _ ?_ SM1.out).mono ?_; exact H1.out.keep K12.out.drew; rintro e w13 ⟨a13, b13, c13, rfl, hT13, hb13⟩; have k13 : Below w12.heap.size w12 w13 := ((Below.refl _ w12).drew).trans hb13; have y0' := cell_later k13 y0; have y1' := cell_later k13 y1; have y2' := cell_later k13 y2; have y3' := cell_later k13 y3; have T13 := T12.out.keep k13)
    | (go_at_call 16; refine (eqTree_opt _ 0 0 _ _ _ _ _ _ _ _ _ _ _ _ _ _ _ M1 V1 S1 _ ?_ ?_).mono ?_; exact T13; exact hT13.low1; rintro e w14 ⟨rfl, hb14⟩))
  all_goals
    go_wp2
    go_ret
    exact ⟨rfl, (K12.out.trans (k13.mono K12.out.size)).trans (hb14.mono (Nat.le_trans K12.out.size k13.size))⟩
end Go.Proofs.Ytkeodfajgpbgaaa
