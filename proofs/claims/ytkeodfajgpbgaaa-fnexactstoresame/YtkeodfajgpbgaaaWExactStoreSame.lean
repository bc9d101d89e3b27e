/-
  The walk of the law FnExactStoreSame: it answers true at every two stores.
-/
import Derived.Test.YtkeodfajgpbgaaaStore2
import Derived.Deep.RegionWith
import Derived.Deep.DeepCutAuto
namespace Go.Proofs.Ytkeodfajgpbgaaa
open Go.RowKit

/-- The law answers true. -/
def ExRS (w : World) (e : Ending) (w' : World) : Prop := e = .returned (.bool true) ∧ Below w.heap.size w w'

set_option maxRecDepth 100000 in
set_option maxHeartbeats 4000000 in
theorem walkFnExactStoreSame (up1 : Bool) (q1 : Int) (m1 : Option Addr) (nm1 cm1 : Nat) (v1 : Option Addr) (nv1 cv1 : Nat) (k1 : Option Addr) (ns1 cs1 : Nat) (lg1 : ByteArray) (sf1 : Int) (d1 : Option Addr) (nd1 cd1 : Nat) (sd1 : Int) (M1 : List EntD) (V1 : List (List RunD)) (S1 : List Int) (U1 : List (List RunD)) (up2 : Bool) (q2 : Int) (m2 : Option Addr) (nm2 cm2 : Nat) (v2 : Option Addr) (nv2 cv2 : Nat) (k2 : Option Addr) (ns2 cs2 : Nat) (lg2 : ByteArray) (sf2 : Int) (d2 : Option Addr) (nd2 cd2 : Nat) (sd2 : Int) (M2 : List EntD) (V2 : List (List RunD)) (S2 : List Int) (U2 : List (List RunD)) (w : World) (w0 : lg1.size ≤ maxLen ∧ StoreIn 0 w m1 nm1 cm1 v1 nv1 cv1 k1 ns1 cs1 d1 nd1 cd1 M1 V1 S1 U1) (w1 : lg2.size ≤ maxLen ∧ StoreIn 0 w m2 nm2 cm2 v2 nv2 cv2 k2 ns2 cs2 d2 nd2 cd2 M2 V2 S2 U2) :
    Calls Try.prog 5 #[.agg #[.bool up1, .int .i64 q1, .slice m1 nm1 cm1, .slice v1 nv1 cv1, .slice k1 ns1 cs1, .string lg1, .int .i64 sf1, .slice d1 nd1 cd1, .int .i64 sd1], .agg #[.bool up2, .int .i64 q2, .slice m2 nm2 cm2, .slice v2 nv2 cv2, .slice k2 ns2 cs2, .string lg2, .int .i64 sf2, .slice d2 nd2 cd2, .int .i64 sd2]] w fun e w' => e = .returned (.bool true) ∧ Below w.heap.size w w' := by
  show Calls _ _ _ w (ExRS w)
  obtain ⟨hl1, hT1⟩ := w0
  obtain ⟨hl2, hT2⟩ := w1
  have HL1 : Hid (lg1.size ≤ maxLen) := hl1
  have HL2 : Hid (lg2.size ≤ maxLen) := hl2
  clear hl1 hl2
  have H1 : Hid (StoreIn 0 w m1 nm1 cm1 v1 nv1 cv1 k1 ns1 cs1 d1 nd1 cd1 M1 V1 S1 U1) := hT1
  have H2 : Hid (StoreIn 0 w m2 nm2 cm2 v2 nv2 cv2 k2 ns2 cs2 d2 nd2 cd2 M2 V2 S2 U2) := hT2
  clear hT1 hT2
  obtain ⟨X, hX⟩ : ∃ X, X = w.heap.size := ⟨_, rfl⟩
  obtain ⟨W, hW⟩ : ∃ W, W = (w.alloc (.cells #[.bool up1, .int .i64 q1, .slice m1 nm1 cm1, .slice v1 nv1 cv1, .slice k1 ns1 cs1, .string lg1, .int .i64 sf1, .slice d1 nd1 cd1, .int .i64 sd1] 47)).alloc (.cells #[.bool up2, .int .i64 q2, .slice m2 nm2 cm2, .slice v2 nv2 cv2, .slice k2 ns2 cs2, .string lg2, .int .i64 sf2, .slice d2 nd2 cd2, .int .i64 sd2] 47) := ⟨_, rfl⟩
  have kW : Below w.heap.size w W := by rw [hW]; exact ((Below.refl _ _).alloc (Nat.le_refl _) _).alloc (by simp) _
  have bx : Box9 W X (.bool up1) (.int .i64 q1) (.slice m1 nm1 cm1) (.slice v1 nv1 cv1) (.slice k1 ns1 cs1) (.string lg1) (.int .i64 sf1) (.slice d1 nd1 cd1) (.int .i64 sd1) := by rw [hW, hX]; exact (Box9.new _ _ _ _ _ _ _ _ _ _ _).alloc _
  have bu : Box9 W (X + 1) (.bool up2) (.int .i64 q2) (.slice m2 nm2 cm2) (.slice v2 nv2 cv2) (.slice k2 ns2 cs2) (.string lg2) (.int .i64 sf2) (.slice d2 nd2 cd2) (.int .i64 sd2) := by
    have := Box9.new (w.alloc (.cells #[.bool up1, .int .i64 q1, .slice m1 nm1 cm1, .slice v1 nv1 cv1, .slice k1 ns1 cs1, .string lg1, .int .i64 sf1, .slice d1 nd1 cd1, .int .i64 sd1] 47)) 47 (.bool up2) (.int .i64 q2) (.slice m2 nm2 cm2) (.slice v2 nv2 cv2) (.slice k2 ns2 cs2) (.string lg2) (.int .i64 sf2) (.slice d2 nd2 cd2) (.int .i64 sd2)
    rw [World.size_alloc] at this
    rw [hW, hX]
    exact this
  have K0 : Hid (Below w.heap.size w W) := kW
  have BX : Hid (Box9 W X (.bool up1) (.int .i64 q1) (.slice m1 nm1 cm1) (.slice v1 nv1 cv1) (.slice k1 ns1 cs1) (.string lg1) (.int .i64 sf1) (.slice d1 nd1 cd1) (.int .i64 sd1)) := bx
  have BU : Hid (Box9 W (X + 1) (.bool up2) (.int .i64 q2) (.slice m2 nm2 cm2) (.slice v2 nv2 cv2) (.slice k2 ns2 cs2) (.string lg2) (.int .i64 sf2) (.slice d2 nd2 cd2) (.int .i64 sd2)) := bu
  clear kW bx bu
  go_enter Try.func5, Try.ntmps5
  go_wp2_with fail
  rw [← hX, ← hW]
  clear hW hX
  refine (szStore_any 0 up1 q1 m1 nm1 cm1 v1 nv1 cv1 k1 ns1 cs1 lg1 sf1 d1 nd1 cd1 sd1 M1 V1 S1 U1 _ _ (H1.out.keep K0.out) HL1.out (by omega) (by omega)).mono ?_
  rintro e w3 ⟨r, rfl, hr, hb3⟩
  have K3 : Hid (Below w.heap.size w w3) := K0.out.trans (hb3.mono K0.out.size)
  have BX3 : Hid (Box9 w3 X (.bool up1) (.int .i64 q1) (.slice m1 nm1 cm1) (.slice v1 nv1 cv1) (.slice k1 ns1 cs1) (.string lg1) (.int .i64 sf1) (.slice d1 nd1 cd1) (.int .i64 sd1)) := BX.out.keep hb3
  have BU3 : Hid (Box9 w3 (X + 1) (.bool up2) (.int .i64 q2) (.slice m2 nm2 cm2) (.slice v2 nv2 cv2) (.slice k2 ns2 cs2) (.string lg2) (.int .i64 sf2) (.slice d2 nd2 cd2) (.int .i64 sd2)) := BU.out.keep hb3
  clear hb3 BX BU
  rcases hr with rfl | ⟨hr0, hr1, hsm1⟩
  · go_wp2
    go_ret
    exact ⟨rfl, K3.out⟩
  have SM1 : Hid (SmallS M1 V1 S1 U1) := hsm1
  clear hsm1
  have u0 := BU3.out.c0
  have u1 := BU3.out.c1
  have u2 := BU3.out.c2
  have u3 := BU3.out.c3
  have u4 := BU3.out.c4
  have u5 := BU3.out.c5
  have u6 := BU3.out.c6
  have u7 := BU3.out.c7
  have u8 := BU3.out.c8
  have uz := BU3.out.lt
  go_wp2_with fail
  clear u0 u1 u2 u3 u4 u5 u6 u7 u8 uz
  refine (szStore_any 0 up2 q2 m2 nm2 cm2 v2 nv2 cv2 k2 ns2 cs2 lg2 sf2 d2 nd2 cd2 sd2 M2 V2 S2 U2 _ _ (H2.out.keep K3.out) HL2.out (by omega) (by omega)).mono ?_
  rintro e w4 ⟨r', rfl, hr', hb4⟩
  have K4 : Hid (Below w.heap.size w w4) := K3.out.trans (hb4.mono K3.out.size)
  have BX4 : Hid (Box9 w4 X (.bool up1) (.int .i64 q1) (.slice m1 nm1 cm1) (.slice v1 nv1 cv1) (.slice k1 ns1 cs1) (.string lg1) (.int .i64 sf1) (.slice d1 nd1 cd1) (.int .i64 sd1)) := BX3.out.keep hb4
  have BU4 : Hid (Box9 w4 (X + 1) (.bool up2) (.int .i64 q2) (.slice m2 nm2 cm2) (.slice v2 nv2 cv2) (.slice k2 ns2 cs2) (.string lg2) (.int .i64 sf2) (.slice d2 nd2 cd2) (.int .i64 sd2)) := BU3.out.keep hb4
  clear hb4 BX3 BU3 K3
  rcases hr' with rfl | ⟨hr0', hr1', hsm2⟩
  · go_wp2
    go_ret
    exact ⟨rfl, K4.out⟩
  have SM2 : Hid (SmallS M2 V2 S2 U2) := hsm2
  clear hsm2 hr1 hr1'
  have x0 := BX4.out.c0
  have x1 := BX4.out.c1
  have x2 := BX4.out.c2
  have x3 := BX4.out.c3
  have x4 := BX4.out.c4
  have x5 := BX4.out.c5
  have x6 := BX4.out.c6
  have x7 := BX4.out.c7
  have x8 := BX4.out.c8
  have u0 := BU4.out.c0
  have u1 := BU4.out.c1
  have u2 := BU4.out.c2
  have u3 := BU4.out.c3
  have u4 := BU4.out.c4
  have u5 := BU4.out.c5
  have u6 := BU4.out.c6
  have u7 := BU4.out.c7
  have u8 := BU4.out.c8
  have xz := BX4.out.lt
  have uz := BU4.out.lt
  go_upto_region 8 with fail
  go_cut [6] (fun s6 wx => s6 = .bool (storeSameB up1 q1 M1 V1 S1 lg1 sf1 U1 sd1 up2 q2 M2 V2 S2 lg2 sf2 U2 sd2) ∧ Below w4.heap.size w4 wx)
  case first =>
    go_region_with (first
      | (go_at_call_of 24 (Value.agg #[Value.bool up1, Value.int .i64 q1, Value.slice m1 nm1 cm1, Value.slice v1 nv1 cv1, Value.slice k1 ns1 cs1, Value.string lg1, Value.int .i64 sf1, Value.slice d1 nd1 cd1, Value.int .i64 sd1]); refine (toStore_any 0 up1 q1 m1 nm1 cm1 v1 nv1 cv1 k1 ns1 cs1 lg1 sf1 d1 nd1 cd1 sd1 M1 V1 S1 U1 _ ?_ SM1.out).mono ?_; exact H1.out.keep K4.out.drew; rintro e w5 ⟨a5, b5, c5, g5, rfl, hT5, hb5⟩; have k45 : Below w4.heap.size w4 w5 := ((Below.refl _ w4).drew).trans hb5; have u0' := cell_later k45 u0; have u1' := cell_later k45 u1; have u2' := cell_later k45 u2; have u3' := cell_later k45 u3; have u4' := cell_later k45 u4; have u5' := cell_later k45 u5; have u6' := cell_later k45 u6; have u7' := cell_later k45 u7; have u8' := cell_later k45 u8; have K5 := K4.out.trans (k45.mono K4.out.size))
      | (go_at_call_of 24 (Value.agg #[Value.bool up2, Value.int .i64 q2, Value.slice m2 nm2 cm2, Value.slice v2 nv2 cv2, Value.slice k2 ns2 cs2, Value.string lg2, Value.int .i64 sf2, Value.slice d2 nd2 cd2, Value.int .i64 sd2]); refine (toStore_any 0 up2 q2 m2 nm2 cm2 v2 nv2 cv2 k2 ns2 cs2 lg2 sf2 d2 nd2 cd2 sd2 M2 V2 S2 U2 _ ?_ SM2.out).mono ?_; exact H2.out.keep K5; rintro e w6 ⟨a6, b6, c6, g6, rfl, hT6, hb6⟩; have hT56 := hT5.keep hb6; have k46 := k45.trans (hb6.mono k45.size))
      | (go_at_call 23; refine (specStoreSame 0 0 _ _ _ _ _ _ _ _ _ _ _ _ _ _ _ _ _ M1 V1 S1 U1 _ _ _ _ _ _ _ _ _ _ _ _ _ _ _ _ _ M2 V2 S2 U2 _ ?_ ?_).mono ?_; exact hT56.low; exact hT6.low; rintro e w7 ⟨rfl, hb7⟩; have k47 := k46.trans (hb7.mono k46.size)))
    all_goals
      go_wp2
      go_meet
      exact ⟨rfl, k47⟩
  case rest =>
    obtain ⟨rfl, k47⟩ := hcut
    have K7 : Hid (Below w.heap.size w wc) := K4.out.trans (k47.mono K4.out.size)
    have BX7 : Hid (Box9 wc X (.bool up1) (.int .i64 q1) (.slice m1 nm1 cm1) (.slice v1 nv1 cv1) (.slice k1 ns1 cs1) (.string lg1) (.int .i64 sf1) (.slice d1 nd1 cd1) (.int .i64 sd1)) := BX4.out.keep k47
    have BU7 : Hid (Box9 wc (X + 1) (.bool up2) (.int .i64 q2) (.slice m2 nm2 cm2) (.slice v2 nv2 cv2) (.slice k2 ns2 cs2) (.string lg2) (.int .i64 sf2) (.slice d2 nd2 cd2) (.int .i64 sd2)) := BU4.out.keep k47
    clear k47 x0 x1 x2 x3 x4 x5 x6 x7 x8 u0 u1 u2 u3 u4 u5 u6 u7 u8 xz uz BX4 BU4 K4
    have x0 := BX7.out.c0
    have x1 := BX7.out.c1
    have x2 := BX7.out.c2
    have x3 := BX7.out.c3
    have x4 := BX7.out.c4
    have x5 := BX7.out.c5
    have x6 := BX7.out.c6
    have x7 := BX7.out.c7
    have x8 := BX7.out.c8
    have xz := BX7.out.lt
    go_wp2_with fail
    clear x0 x1 x2 x3 x4 x5 x6 x7 x8 xz
    refine (toStore_any 0 up1 q1 m1 nm1 cm1 v1 nv1 cv1 k1 ns1 cs1 lg1 sf1 d1 nd1 cd1 sd1 M1 V1 S1 U1 _ (H1.out.keep K7.out) SM1.out).mono ?_
    rintro e w8 ⟨a8, b8, c8, g8, rfl, hT8, hb8⟩
    obtain ⟨Y, hY⟩ : ∃ Y, Y = w8.heap.size := ⟨_, rfl⟩
    obtain ⟨W8, hW8⟩ : ∃ W8, W8 = w8.alloc (.cells #[.bool up1, .int .i64 q1, .slice (some ⟨a8, 0, none⟩) nm1 nm1, .slice (some ⟨b8, 0, none⟩) nv1 nv1, .slice (some ⟨c8, 0, none⟩) ns1 ns1, .string lg1, .int .i64 sf1, .slice (some ⟨g8, 0, none⟩) nd1 nd1, .int .i64 sd1] 39) := ⟨_, rfl⟩
    have k8 : Below w8.heap.size w8 W8 := by rw [hW8]; exact (Below.refl _ _).alloc (Nat.le_refl _) _
    have K8 : Hid (Below w.heap.size w W8) := (K7.out.trans (hb8.mono K7.out.size)).trans (k8.mono (Nat.le_trans K7.out.size hb8.size))
    have T8 : Hid (StoreIn 0 W8 (some ⟨a8, 0, none⟩) nm1 nm1 (some ⟨b8, 0, none⟩) nv1 nv1 (some ⟨c8, 0, none⟩) ns1 ns1 (some ⟨g8, 0, none⟩) nd1 nd1 M1 V1 S1 U1) := (hT8.low).keep k8
    have BX8 : Hid (Box9 W8 X (.bool up1) (.int .i64 q1) (.slice m1 nm1 cm1) (.slice v1 nv1 cv1) (.slice k1 ns1 cs1) (.string lg1) (.int .i64 sf1) (.slice d1 nd1 cd1) (.int .i64 sd1)) := (BX7.out.keep hb8).keep k8
    have BU8 : Hid (Box9 W8 (X + 1) (.bool up2) (.int .i64 q2) (.slice m2 nm2 cm2) (.slice v2 nv2 cv2) (.slice k2 ns2 cs2) (.string lg2) (.int .i64 sf2) (.slice d2 nd2 cd2) (.int .i64 sd2)) := (BU7.out.keep hb8).keep k8
    have BY8 : Hid (Box9 W8 Y (.bool up1) (.int .i64 q1) (.slice (some ⟨a8, 0, none⟩) nm1 nm1) (.slice (some ⟨b8, 0, none⟩) nv1 nv1) (.slice (some ⟨c8, 0, none⟩) ns1 ns1) (.string lg1) (.int .i64 sf1) (.slice (some ⟨g8, 0, none⟩) nd1 nd1) (.int .i64 sd1)) := by rw [hW8, hY]; exact Box9.new _ _ _ _ _ _ _ _ _ _ _
    have u0 := (BU7.out.keep hb8).c0
    have u1 := (BU7.out.keep hb8).c1
    have u2 := (BU7.out.keep hb8).c2
    have u3 := (BU7.out.keep hb8).c3
    have u4 := (BU7.out.keep hb8).c4
    have u5 := (BU7.out.keep hb8).c5
    have u6 := (BU7.out.keep hb8).c6
    have u7 := (BU7.out.keep hb8).c7
    have u8 := (BU7.out.keep hb8).c8
    have uz := (BU7.out.keep hb8).lt
    clear hb8 hT8 BX7 BU7 K7 k8
    go_wp2_with fail
    rw [← hW8, ← hY]
    clear hW8 hY u0 u1 u2 u3 u4 u5 u6 u7 u8 uz
    refine (toStore_any 0 up2 q2 m2 nm2 cm2 v2 nv2 cv2 k2 ns2 cs2 lg2 sf2 d2 nd2 cd2 sd2 M2 V2 S2 U2 _ (H2.out.keep K8.out) SM2.out).mono ?_
    rintro e w9 ⟨a9, b9, c9, g9, rfl, hT9, hb9⟩
    obtain ⟨Z, hZ⟩ : ∃ Z, Z = w9.heap.size := ⟨_, rfl⟩
    obtain ⟨W9, hW9⟩ : ∃ W9, W9 = w9.alloc (.cells #[.bool up2, .int .i64 q2, .slice (some ⟨a9, 0, none⟩) nm2 nm2, .slice (some ⟨b9, 0, none⟩) nv2 nv2, .slice (some ⟨c9, 0, none⟩) ns2 ns2, .string lg2, .int .i64 sf2, .slice (some ⟨g9, 0, none⟩) nd2 nd2, .int .i64 sd2] 39) := ⟨_, rfl⟩
    have k9 : Below w9.heap.size w9 W9 := by rw [hW9]; exact (Below.refl _ _).alloc (Nat.le_refl _) _
    have K9 : Hid (Below w.heap.size w W9) := (K8.out.trans (hb9.mono K8.out.size)).trans (k9.mono (Nat.le_trans K8.out.size hb9.size))
    have T9 : Hid (StoreIn 0 W9 (some ⟨a8, 0, none⟩) nm1 nm1 (some ⟨b8, 0, none⟩) nv1 nv1 (some ⟨c8, 0, none⟩) ns1 ns1 (some ⟨g8, 0, none⟩) nd1 nd1 M1 V1 S1 U1) := (T8.out.keep hb9).keep k9
    have R9 : Hid (StoreIn 0 W9 (some ⟨a9, 0, none⟩) nm2 nm2 (some ⟨b9, 0, none⟩) nv2 nv2 (some ⟨c9, 0, none⟩) ns2 ns2 (some ⟨g9, 0, none⟩) nd2 nd2 M2 V2 S2 U2) := (hT9.low).keep k9
    have BX9 : Hid (Box9 W9 X (.bool up1) (.int .i64 q1) (.slice m1 nm1 cm1) (.slice v1 nv1 cv1) (.slice k1 ns1 cs1) (.string lg1) (.int .i64 sf1) (.slice d1 nd1 cd1) (.int .i64 sd1)) := (BX8.out.keep hb9).keep k9
    have BU9 : Hid (Box9 W9 (X + 1) (.bool up2) (.int .i64 q2) (.slice m2 nm2 cm2) (.slice v2 nv2 cv2) (.slice k2 ns2 cs2) (.string lg2) (.int .i64 sf2) (.slice d2 nd2 cd2) (.int .i64 sd2)) := (BU8.out.keep hb9).keep k9
    have BY9 : Hid (Box9 W9 Y (.bool up1) (.int .i64 q1) (.slice (some ⟨a8, 0, none⟩) nm1 nm1) (.slice (some ⟨b8, 0, none⟩) nv1 nv1) (.slice (some ⟨c8, 0, none⟩) ns1 ns1) (.string lg1) (.int .i64 sf1) (.slice (some ⟨g8, 0, none⟩) nd1 nd1) (.int .i64 sd1)) := (BY8.out.keep hb9).keep k9
    have BZ9 : Hid (Box9 W9 Z (.bool up2) (.int .i64 q2) (.slice (some ⟨a9, 0, none⟩) nm2 nm2) (.slice (some ⟨b9, 0, none⟩) nv2 nv2) (.slice (some ⟨c9, 0, none⟩) ns2 ns2) (.string lg2) (.int .i64 sf2) (.slice (some ⟨g9, 0, none⟩) nd2 nd2) (.int .i64 sd2)) := by rw [hW9, hZ]; exact Box9.new _ _ _ _ _ _ _ _ _ _ _
    have y0 := (BY8.out.keep hb9).c0
    have y1 := (BY8.out.keep hb9).c1
    have y2 := (BY8.out.keep hb9).c2
    have y3 := (BY8.out.keep hb9).c3
    have y4 := (BY8.out.keep hb9).c4
    have y5 := (BY8.out.keep hb9).c5
    have y6 := (BY8.out.keep hb9).c6
    have y7 := (BY8.out.keep hb9).c7
    have y8 := (BY8.out.keep hb9).c8
    have yz := (BY8.out.keep hb9).lt
    clear hb9 hT9 BX8 BU8 BY8 K8 k9 T8
    go_wp2_with fail
    rw [← hW9, ← hZ]
    clear hW9 hZ y0 y1 y2 y3 y4 y5 y6 y7 y8 yz
    refine (implStoreSame _ _ _ _ _ _ _ _ _ _ _ _ _ _ _ _ _ _ _ M1 V1 S1 U1 _ _ _ _ _ _ _ _ _ _ _ _ _ _ _ _ _ M2 V2 S2 U2 _ T9.out R9.out).mono ?_
    rintro e w12 ⟨rfl, hb12⟩
    have K12 : Hid (Below w.heap.size w w12) := K9.out.trans (hb12.mono K9.out.size)
    have T12 : Hid (StoreIn 0 w12 (some ⟨a8, 0, none⟩) nm1 nm1 (some ⟨b8, 0, none⟩) nv1 nv1 (some ⟨c8, 0, none⟩) ns1 ns1 (some ⟨g8, 0, none⟩) nd1 nd1 M1 V1 S1 U1) := T9.out.keep hb12
    have R12 : Hid (StoreIn 0 w12 (some ⟨a9, 0, none⟩) nm2 nm2 (some ⟨b9, 0, none⟩) nv2 nv2 (some ⟨c9, 0, none⟩) ns2 ns2 (some ⟨g9, 0, none⟩) nd2 nd2 M2 V2 S2 U2) := R9.out.keep hb12
    have BX12 : Hid (Box9 w12 X (.bool up1) (.int .i64 q1) (.slice m1 nm1 cm1) (.slice v1 nv1 cv1) (.slice k1 ns1 cs1) (.string lg1) (.int .i64 sf1) (.slice d1 nd1 cd1) (.int .i64 sd1)) := BX9.out.keep hb12
    have BU12 : Hid (Box9 w12 (X + 1) (.bool up2) (.int .i64 q2) (.slice m2 nm2 cm2) (.slice v2 nv2 cv2) (.slice k2 ns2 cs2) (.string lg2) (.int .i64 sf2) (.slice d2 nd2 cd2) (.int .i64 sd2)) := BU9.out.keep hb12
    have BY12 : Hid (Box9 w12 Y (.bool up1) (.int .i64 q1) (.slice (some ⟨a8, 0, none⟩) nm1 nm1) (.slice (some ⟨b8, 0, none⟩) nv1 nv1) (.slice (some ⟨c8, 0, none⟩) ns1 ns1) (.string lg1) (.int .i64 sf1) (.slice (some ⟨g8, 0, none⟩) nd1 nd1) (.int .i64 sd1)) := BY9.out.keep hb12
    have BZ12 : Hid (Box9 w12 Z (.bool up2) (.int .i64 q2) (.slice (some ⟨a9, 0, none⟩) nm2 nm2) (.slice (some ⟨b9, 0, none⟩) nv2 nv2) (.slice (some ⟨c9, 0, none⟩) ns2 ns2) (.string lg2) (.int .i64 sf2) (.slice (some ⟨g9, 0, none⟩) nd2 nd2) (.int .i64 sd2)) := BZ9.out.keep hb12
    clear hb12 BX9 BU9 BY9 BZ9 K9 T9 R9
    have x0 := BX12.out.c0
    have x1 := BX12.out.c1
    have x2 := BX12.out.c2
    have x3 := BX12.out.c3
    have x4 := BX12.out.c4
    have x5 := BX12.out.c5
    have x6 := BX12.out.c6
    have x7 := BX12.out.c7
    have x8 := BX12.out.c8
    have xz := BX12.out.lt
    have y0 := BY12.out.c0
    have y1 := BY12.out.c1
    have y2 := BY12.out.c2
    have y3 := BY12.out.c3
    have y4 := BY12.out.c4
    have y5 := BY12.out.c5
    have y6 := BY12.out.c6
    have y7 := BY12.out.c7
    have y8 := BY12.out.c8
    have yz := BY12.out.lt
    go_upto_region 14 with fail
    go_cut [39] (fun s wx => s = .bool false ∧ Below w12.heap.size w12 wx)
    case first =>
      go_region_with (first
        | (go_at_call 24; refine (toStore_any 0 up1 q1 m1 nm1 cm1 v1 nv1 cv1 k1 ns1 cs1 lg1 sf1 d1 nd1 cd1 sd1 M1 V1 S1 U1 _ ?_ SM1.out).mono ?_; exact H1.out.keep K12.out.drew; rintro e w13 ⟨a13, b13, c13, g13, rfl, hT13, hb13⟩; have k13 : Below w12.heap.size w12 w13 := ((Below.refl _ w12).drew).trans hb13; have y0' := cell_later k13 y0; have y1' := cell_later k13 y1; have y2' := cell_later k13 y2; have y3' := cell_later k13 y3; have y4' := cell_later k13 y4; have y5' := cell_later k13 y5; have y6' := cell_later k13 y6; have y7' := cell_later k13 y7; have y8' := cell_later k13 y8; have T13 := T12.out.keep k13)
        | (go_at_call 19; refine (eqStore_opt 0 0 _ _ _ _ _ _ _ _ _ _ _ _ _ _ _ _ _ M1 V1 S1 U1 _ _ _ _ _ _ _ _ _ ?_ ?_).mono ?_; exact T13; exact hT13.low; rintro e w14 ⟨rfl, hb14⟩))
      all_goals
        go_wp2
        go_meet
        exact ⟨rfl, k13.trans (hb14.mono k13.size)⟩
    case rest =>
      obtain ⟨rfl, k15⟩ := hcut
      have K15 : Hid (Below w.heap.size w wc) := K12.out.trans (k15.mono K12.out.size)
      have R15 : Hid (StoreIn 0 wc (some ⟨a9, 0, none⟩) nm2 nm2 (some ⟨b9, 0, none⟩) nv2 nv2 (some ⟨c9, 0, none⟩) ns2 ns2 (some ⟨g9, 0, none⟩) nd2 nd2 M2 V2 S2 U2) := R12.out.keep k15
      have u0 := (BU12.out.keep k15).c0
      have u1 := (BU12.out.keep k15).c1
      have u2 := (BU12.out.keep k15).c2
      have u3 := (BU12.out.keep k15).c3
      have u4 := (BU12.out.keep k15).c4
      have u5 := (BU12.out.keep k15).c5
      have u6 := (BU12.out.keep k15).c6
      have u7 := (BU12.out.keep k15).c7
      have u8 := (BU12.out.keep k15).c8
      have uz := (BU12.out.keep k15).lt
      have z0 := (BZ12.out.keep k15).c0
      have z1 := (BZ12.out.keep k15).c1
      have z2 := (BZ12.out.keep k15).c2
      have z3 := (BZ12.out.keep k15).c3
      have z4 := (BZ12.out.keep k15).c4
      have z5 := (BZ12.out.keep k15).c5
      have z6 := (BZ12.out.keep k15).c6
      have z7 := (BZ12.out.keep k15).c7
      have z8 := (BZ12.out.keep k15).c8
      have zz := (BZ12.out.keep k15).lt
      clear k15 x0 x1 x2 x3 x4 x5 x6 x7 x8 xz y0 y1 y2 y3 y4 y5 y6 y7 y8 yz BX12 BU12 BY12 BZ12 K12 T12 R12
      go_upto_region 16 with fail
      go_region_with (first
        | (go_at_call 24; refine (toStore_any 0 up2 q2 m2 nm2 cm2 v2 nv2 cv2 k2 ns2 cs2 lg2 sf2 d2 nd2 cd2 sd2 M2 V2 S2 U2 _ ?_ SM2.out).mono ?_; exact H2.out.keep K15.out.drew; rintro e w16 ⟨a16, b16, c16, g16, rfl, hT16, hb16⟩; have k16 : Below wc.heap.size wc w16 := ((Below.refl _ wc).drew).trans hb16; have z0' := cell_later k16 z0; have z1' := cell_later k16 z1; have z2' := cell_later k16 z2; have z3' := cell_later k16 z3; have z4' := cell_later k16 z4; have z5' := cell_later k16 z5; have z6' := cell_later k16 z6; have z7' := cell_later k16 z7; have z8' := cell_later k16 z8; have R16 := R15.out.keep k16)
        | (go_at_call 19; refine (eqStore_opt 0 0 _ _ _ _ _ _ _ _ _ _ _ _ _ _ _ _ _ M2 V2 S2 U2 _ _ _ _ _ _ _ _ _ ?_ ?_).mono ?_; exact R16; exact hT16.low; rintro e w17 ⟨rfl, hb17⟩))
      all_goals
        go_wp2
        go_ret
        exact ⟨rfl, (K15.out.trans (k16.mono K15.out.size)).trans (hb17.mono (Nat.le_trans K15.out.size k16.size))⟩
end Go.Proofs.Ytkeodfajgpbgaaa
