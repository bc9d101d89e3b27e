/-
  The walk of the law FnExactStoreOk: it answers true at every store.
-/
import Derived.Test.YtapjkbpfhmbfaaaGreatDoorSo47
import Derived.Test.YtapjkbpfhmbfaaaGreatDoorSo48
import Derived.Deep.RegionWith
import Derived.Deep.DeepCutAuto
namespace Go.Proofs.YtapjkbpfhmbfaaaGreatDoor
set_option maxRecDepth 100000
set_option maxHeartbeats 8000000
open Go.RowKit Go.Shelf
structure FrW (B : Nat) (w : World) : Prop where
  e : ErrB B w
  t : TabB B w
theorem FrW.at {w w' : World} (h : FrW w.heap.size w) (hb : Below w.heap.size w w') : FrW w'.heap.size w' :=
  ⟨fun x hx => h.e x (hb.trans (hx.mono hb.size)), fun x hx => h.t x (hb.trans (hx.mono hb.size))⟩
def ExRO (w : World) (e : Ending) (w' : World) : Prop := e = .returned (.bool true) ∧ Below w.heap.size w w'
theorem walkFnExactStoreOk (up1 : Bool) (q1 : Int) (m1 : Option Addr) (nm1 cm1 : Nat) (v1 : Option Addr) (nv1 cv1 : Nat) (k1 : Option Addr) (ns1 cs1 : Nat) (lg1 : ByteArray) (sf1 : Int) (d1 : Option Addr) (nd1 cd1 : Nat) (sd1 : Int) (M1 : List EntD) (V1 : List (List RunD)) (S1 : List Int) (U1 : List (List RunD)) (w : World) (w0 : lg1.size ≤ maxLen ∧ StoreIn 0 w m1 nm1 cm1 v1 nv1 cv1 k1 ns1 cs1 d1 nd1 cd1 M1 V1 S1 U1) (hF : FrW w.heap.size w) :
    Calls Tryz.prog 3 #[.agg #[.bool up1, .int .i64 q1, .slice m1 nm1 cm1, .slice v1 nv1 cv1, .slice k1 ns1 cs1, .string lg1, .int .i64 sf1, .slice d1 nd1 cd1, .int .i64 sd1]] w fun e w' => e = .returned (.bool true) ∧ Below w.heap.size w w' := by
  show Calls _ _ _ w (ExRO w)
  obtain ⟨hl1, hT1⟩ := w0
  have HL1 : Hid (lg1.size ≤ maxLen) := hl1
  have H1 : Hid (StoreIn 0 w m1 nm1 cm1 v1 nv1 cv1 k1 ns1 cs1 d1 nd1 cd1 M1 V1 S1 U1) := hT1
  have HF := hiD hF
  clear hT1 hl1 hF
  obtain ⟨X, hX⟩ := ex' w.heap.size
  obtain ⟨W, hW⟩ := ex' (w.alloc (.cells #[.bool up1, .int .i64 q1, .slice m1 nm1 cm1, .slice v1 nv1 cv1, .slice k1 ns1 cs1, .string lg1, .int .i64 sf1, .slice d1 nd1 cd1, .int .i64 sd1] 30))
  have kW : Below w.heap.size w W := by rw [hW]; exact (Below.refl _ _).alloc (Nat.le_refl _) _
  have bx : Box9 W X (.bool up1) (.int .i64 q1) (.slice m1 nm1 cm1) (.slice v1 nv1 cv1) (.slice k1 ns1 cs1) (.string lg1) (.int .i64 sf1) (.slice d1 nd1 cd1) (.int .i64 sd1) := by rw [hW, hX]; exact Box9.new _ _ _ _ _ _ _ _ _ _ _
  have K0 : Hid (Below w.heap.size w W) := kW
  have BX : Hid (Box9 W X (.bool up1) (.int .i64 q1) (.slice m1 nm1 cm1) (.slice v1 nv1 cv1) (.slice k1 ns1 cs1) (.string lg1) (.int .i64 sf1) (.slice d1 nd1 cd1) (.int .i64 sd1)) := bx
  clear kW bx
  go_enter Tryz.func3, Tryz.ntmps3
  go_wp2_with fail
  rw [← hX, ← hW]
  clear hW hX
  refine (szStore_lg 0 up1 q1 m1 nm1 cm1 v1 nv1 cv1 k1 ns1 cs1 lg1 sf1 d1 nd1 cd1 sd1 M1 V1 S1 U1 _ _ (H1.out.keep K0.out) HL1.out (by omega) (by omega)).mono ?_
  rintro e w4 ⟨r, rfl, hr, hb3⟩
  have K4 : Hid (Below w.heap.size w w4) := K0.out.trans (hb3.mono K0.out.size)
  have BX4 : Hid (Box9 w4 X (.bool up1) (.int .i64 q1) (.slice m1 nm1 cm1) (.slice v1 nv1 cv1) (.slice k1 ns1 cs1) (.string lg1) (.int .i64 sf1) (.slice d1 nd1 cd1) (.int .i64 sd1)) := BX.out.keep hb3
  clear hb3 BX
  rcases hr with rfl | ⟨hr0, hr1, hsm1, hlg⟩
  · go_wp2
    go_ret
    exact ⟨rfl, K4.out⟩
  have SM1 := hiD hsm1
  have HLG := hiD hlg
  clear hsm1 hr1 hlg
  have x0 := BX4.out.c0
  have x1 := BX4.out.c1
  have x2 := BX4.out.c2
  have x3 := BX4.out.c3
  have x4 := BX4.out.c4
  have x5 := BX4.out.c5
  have x6 := BX4.out.c6
  have x7 := BX4.out.c7
  have x8 := BX4.out.c8
  have xz := BX4.out.lt
  go_wp2_with fail
  clear x0 x1 x2 x3 x4 x5 x6 x7 x8 xz
  refine (toStore_any 0 up1 q1 m1 nm1 cm1 v1 nv1 cv1 k1 ns1 cs1 lg1 sf1 d1 nd1 cd1 sd1 M1 V1 S1 U1 _ (H1.out.keep K4.out) SM1.out).mono ?_
  rintro e w5 ⟨a5, b5, c5, g5, rfl, hT5, hb5⟩
  have K5 : Hid (Below w.heap.size w w5) := K4.out.trans (hb5.mono K4.out.size)
  have BX5 : Hid (Box9 w5 X (.bool up1) (.int .i64 q1) (.slice m1 nm1 cm1) (.slice v1 nv1 cv1) (.slice k1 ns1 cs1) (.string lg1) (.int .i64 sf1) (.slice d1 nd1 cd1) (.int .i64 sd1)) := BX4.out.keep hb5
  have T5 : Hid (StoreIn 0 w5 (some ⟨a5, 0, none⟩) nm1 nm1 (some ⟨b5, 0, none⟩) nv1 nv1 (some ⟨c5, 0, none⟩) ns1 ns1 (some ⟨g5, 0, none⟩) nd1 nd1 M1 V1 S1 U1) := hT5.low
  clear hb5 hT5 BX4 K4
  go_wp2_with fail
  refine (specStoreOk up1 q1 _ _ _ _ _ _ _ _ _ _ _ _ M1 V1 S1 lg1 sf1 sd1 U1 _ T5.out.tree T5.out.disk HLG.out).mono ?_
  rintro e w6 ⟨bs, rfl, hbs, hb6⟩
  have HBS := hiD hbs
  have K6 : Hid (Below w.heap.size w w6) := K5.out.trans (hb6.mono K5.out.size)
  have BX6 : Hid (Box9 w6 X (.bool up1) (.int .i64 q1) (.slice m1 nm1 cm1) (.slice v1 nv1 cv1) (.slice k1 ns1 cs1) (.string lg1) (.int .i64 sf1) (.slice d1 nd1 cd1) (.int .i64 sd1)) := BX5.out.keep hb6
  clear hb6 hbs BX5 K5 T5
  have x0 := BX6.out.c0
  have x1 := BX6.out.c1
  have x2 := BX6.out.c2
  have x3 := BX6.out.c3
  have x4 := BX6.out.c4
  have x5 := BX6.out.c5
  have x6 := BX6.out.c6
  have x7 := BX6.out.c7
  have x8 := BX6.out.c8
  have xz := BX6.out.lt
  go_wp2_with fail
  clear x0 x1 x2 x3 x4 x5 x6 x7 x8 xz
  refine (toStore_any 0 up1 q1 m1 nm1 cm1 v1 nv1 cv1 k1 ns1 cs1 lg1 sf1 d1 nd1 cd1 sd1 M1 V1 S1 U1 _ (H1.out.keep K6.out) SM1.out).mono ?_
  rintro e w8 ⟨a8, b8, c8, g8, rfl, hT8, hb8⟩
  obtain ⟨Y, hY⟩ := ex' w8.heap.size
  obtain ⟨W8, hW8⟩ := ex' (w8.alloc (.cells #[.bool up1, .int .i64 q1, .slice (some ⟨a8, 0, none⟩) nm1 nm1, .slice (some ⟨b8, 0, none⟩) nv1 nv1, .slice (some ⟨c8, 0, none⟩) ns1 ns1, .string lg1, .int .i64 sf1, .slice (some ⟨g8, 0, none⟩) nd1 nd1, .int .i64 sd1] 40))
  have k8 : Below w8.heap.size w8 W8 := by rw [hW8]; exact (Below.refl _ _).alloc (Nat.le_refl _) _
  have K8 : Hid (Below w.heap.size w W8) := (K6.out.trans (hb8.mono K6.out.size)).trans (k8.mono (Nat.le_trans K6.out.size hb8.size))
  have T8 : Hid (StoreIn 0 W8 (some ⟨a8, 0, none⟩) nm1 nm1 (some ⟨b8, 0, none⟩) nv1 nv1 (some ⟨c8, 0, none⟩) ns1 ns1 (some ⟨g8, 0, none⟩) nd1 nd1 M1 V1 S1 U1) := (hT8.low).keep k8
  have BX8 : Hid (Box9 W8 X (.bool up1) (.int .i64 q1) (.slice m1 nm1 cm1) (.slice v1 nv1 cv1) (.slice k1 ns1 cs1) (.string lg1) (.int .i64 sf1) (.slice d1 nd1 cd1) (.int .i64 sd1)) := (BX6.out.keep hb8).keep k8
  have BY8 : Hid (Box9 W8 Y (.bool up1) (.int .i64 q1) (.slice (some ⟨a8, 0, none⟩) nm1 nm1) (.slice (some ⟨b8, 0, none⟩) nv1 nv1) (.slice (some ⟨c8, 0, none⟩) ns1 ns1) (.string lg1) (.int .i64 sf1) (.slice (some ⟨g8, 0, none⟩) nd1 nd1) (.int .i64 sd1)) := by rw [hW8, hY]; exact Box9.new _ _ _ _ _ _ _ _ _ _ _
  have F8 := hiD (HF.out.at K8.out)
  clear hb8 hT8 BX6 K6 k8
  go_wp2_with fail
  rw [← hW8]
  try rw [← hY]
  clear hW8 hY
  refine (implStoreOk 0 up1 q1 _ _ _ _ _ _ _ _ _ _ _ _ M1 V1 S1 lg1 sf1 sd1 U1 _ T8.out.tree T8.out.disk HLG.out F8.out.e F8.out.t).mono ?_
  rintro e w12 ⟨bi, rfl, hbi, hb12⟩
  have hbe : bi = bs := by
    obtain ⟨P, k, hw⟩ := whole_ex lg1.data.toList.length lg1.data.toList (Nat.le_refl _)
    rw [hbi P k hw, HBS.out P k hw]
  subst hbe
  have K12 : Hid (Below w.heap.size w w12) := K8.out.trans (hb12.mono K8.out.size)
  have T12 : Hid (StoreIn 0 w12 (some ⟨a8, 0, none⟩) nm1 nm1 (some ⟨b8, 0, none⟩) nv1 nv1 (some ⟨c8, 0, none⟩) ns1 ns1 (some ⟨g8, 0, none⟩) nd1 nd1 M1 V1 S1 U1) := T8.out.keep hb12
  have BX12 : Hid (Box9 w12 X (.bool up1) (.int .i64 q1) (.slice m1 nm1 cm1) (.slice v1 nv1 cv1) (.slice k1 ns1 cs1) (.string lg1) (.int .i64 sf1) (.slice d1 nd1 cd1) (.int .i64 sd1)) := BX8.out.keep hb12
  have BY12 : Hid (Box9 w12 Y (.bool up1) (.int .i64 q1) (.slice (some ⟨a8, 0, none⟩) nm1 nm1) (.slice (some ⟨b8, 0, none⟩) nv1 nv1) (.slice (some ⟨c8, 0, none⟩) ns1 ns1) (.string lg1) (.int .i64 sf1) (.slice (some ⟨g8, 0, none⟩) nd1 nd1) (.int .i64 sd1)) := BY8.out.keep hb12
  clear hb12 hbi HBS BX8 BY8 K8 T8 F8
  have x0 := BX12.out.c0
  have x1 := BX12.out.c1
  have x2 := BX12.out.c2
  have x3 := BX12.out.c3
  have x4 := BX12.out.c4
  have x5 := BX12.out.c5
  have x6 := BX12.out.c6
  have x7 := BX12.out.c7
  have x8 := BX12.out.c8
  have xz := BX12.out.lt
  have y0 := BY12.out.c0
  have y1 := BY12.out.c1
  have y2 := BY12.out.c2
  have y3 := BY12.out.c3
  have y4 := BY12.out.c4
  have y5 := BY12.out.c5
  have y6 := BY12.out.c6
  have y7 := BY12.out.c7
  have y8 := BY12.out.c8
  have yz := BY12.out.lt
  go_upto_region 10 with fail
  go_region_with (first
    | (go_at_call 13; refine (toStore_any 0 up1 q1 m1 nm1 cm1 v1 nv1 cv1 k1 ns1 cs1 lg1 sf1 d1 nd1 cd1 sd1 M1 V1 S1 U1 _ ?_ SM1.out).mono ?_; exact H1.out.keep K12.out.drew; rintro e w13 ⟨a13, b13, c13, g13, rfl, hT13, hb13⟩; have k13 : Below w12.heap.size w12 w13 := ((Below.refl _ w12).drew).trans hb13; have y0' := cell_later k13 y0; have y1' := cell_later k13 y1; have y2' := cell_later k13 y2; have y3' := cell_later k13 y3; have y4' := cell_later k13 y4; have y5' := cell_later k13 y5; have y6' := cell_later k13 y6; have y7' := cell_later k13 y7; have y8' := cell_later k13 y8; have T13 := T12.out.keep k13)
    | (go_at_call 15; refine (eqStore_opt 0 0 _ _ _ _ _ _ _ _ _ _ _ _ _ _ _ _ _ M1 V1 S1 U1 _ _ _ _ _ _ _ _ _ ?_ ?_).mono ?_; exact T13; exact hT13.low; rintro e w14 ⟨rfl, hb14⟩))
  all_goals
    go_wp2
    go_ret
    exact ⟨rfl, (K12.out.trans (k13.mono K12.out.size)).trans (hb14.mono (Nat.le_trans K12.out.size k13.size))⟩
end Go.Proofs.YtapjkbpfhmbfaaaGreatDoor
