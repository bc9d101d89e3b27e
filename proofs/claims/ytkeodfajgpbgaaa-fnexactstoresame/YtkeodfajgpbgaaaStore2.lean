/-
  When two stores are one: what the document's and the program's StoreSame answer, by walks of their Go text.
-/
import Derived.Test.YtkeodfajgpbgaaaStore1
import Derived.Test.YtkeodfajgpbgaaaTSame2
namespace Go.Proofs.Ytkeodfajgpbgaaa
open Go.RowKit Go.Joins Go.ChangeShapes Go.WideShapes

/-- Two stores are one. -/
def storeSameB (up : Bool) (q : Int) (M : List EntD) (V : List (List RunD)) (S : List Int) (lg : ByteArray) (sf : Int) (U : List (List RunD)) (sd : Int) (up' : Bool) (q' : Int) (M' : List EntD) (V' : List (List RunD)) (S' : List Int) (lg' : ByteArray) (sf' : Int) (U' : List (List RunD)) (sd' : Int) : Bool :=
  decide (up = up') && (treeSameB q M V S q' M' V' S' && (decide (lg = lg') && (decide (sf = sf') && (decide (U = U') && decide (sd = sd')))))

set_option maxRecDepth 100000 in
set_option maxHeartbeats 4000000 in
theorem specStoreSame (lo1 lo2 : Nat) (up1 : Bool) (q1 : Int) (m1 : Option Addr) (nm1 cm1 : Nat) (v1 : Option Addr) (nv1 cv1 : Nat) (k1 : Option Addr) (ns1 cs1 : Nat) (lg1 : ByteArray) (sf1 : Int) (d1 : Option Addr) (nd1 cd1 : Nat) (sd1 : Int) (M1 : List EntD) (V1 : List (List RunD)) (S1 : List Int) (U1 : List (List RunD)) (up2 : Bool) (q2 : Int) (m2 : Option Addr) (nm2 cm2 : Nat) (v2 : Option Addr) (nv2 cv2 : Nat) (k2 : Option Addr) (ns2 cs2 : Nat) (lg2 : ByteArray) (sf2 : Int) (d2 : Option Addr) (nd2 cd2 : Nat) (sd2 : Int) (M2 : List EntD) (V2 : List (List RunD)) (S2 : List Int) (U2 : List (List RunD)) (w : World) (h1 : StoreIn lo1 w m1 nm1 cm1 v1 nv1 cv1 k1 ns1 cs1 d1 nd1 cd1 M1 V1 S1 U1) (h2 : StoreIn lo2 w m2 nm2 cm2 v2 nv2 cv2 k2 ns2 cs2 d2 nd2 cd2 M2 V2 S2 U2) :
    Calls Try.prog 23 #[.agg #[.bool up1, .int .i64 q1, .slice m1 nm1 cm1, .slice v1 nv1 cv1, .slice k1 ns1 cs1, .string lg1, .int .i64 sf1, .slice d1 nd1 cd1, .int .i64 sd1], .agg #[.bool up2, .int .i64 q2, .slice m2 nm2 cm2, .slice v2 nv2 cv2, .slice k2 ns2 cs2, .string lg2, .int .i64 sf2, .slice d2 nd2 cd2, .int .i64 sd2]] w fun e w' => e = .returned (.bool (storeSameB up1 q1 M1 V1 S1 lg1 sf1 U1 sd1 up2 q2 M2 V2 S2 lg2 sf2 U2 sd2)) ∧ Below w.heap.size w w' := by
  obtain ⟨W, hW⟩ : ∃ W, W = (w.alloc (.cells #[.bool up1, .int .i64 q1, .slice m1 nm1 cm1, .slice v1 nv1 cv1, .slice k1 ns1 cs1, .string lg1, .int .i64 sf1, .slice d1 nd1 cd1, .int .i64 sd1] 39)).alloc (.cells #[.bool up2, .int .i64 q2, .slice m2 nm2 cm2, .slice v2 nv2 cv2, .slice k2 ns2 cs2, .string lg2, .int .i64 sf2, .slice d2 nd2 cd2, .int .i64 sd2] 39) := ⟨_, rfl⟩
  have hB : Below w.heap.size w W := by rw [hW]; exact ((Below.refl _ _).alloc (Nat.le_refl _) _).alloc (by simp) _
  have bx : Box9 W w.heap.size (.bool up1) (.int .i64 q1) (.slice m1 nm1 cm1) (.slice v1 nv1 cv1) (.slice k1 ns1 cs1) (.string lg1) (.int .i64 sf1) (.slice d1 nd1 cd1) (.int .i64 sd1) := by rw [hW]; exact (Box9.new _ _ _ _ _ _ _ _ _ _ _).alloc _
  have bu : Box9 W (w.heap.size + 1) (.bool up2) (.int .i64 q2) (.slice m2 nm2 cm2) (.slice v2 nv2 cv2) (.slice k2 ns2 cs2) (.string lg2) (.int .i64 sf2) (.slice d2 nd2 cd2) (.int .i64 sd2) := by
    have := Box9.new (w.alloc (.cells #[.bool up1, .int .i64 q1, .slice m1 nm1 cm1, .slice v1 nv1 cv1, .slice k1 ns1 cs1, .string lg1, .int .i64 sf1, .slice d1 nd1 cd1, .int .i64 sd1] 39)) 39 (.bool up2) (.int .i64 q2) (.slice m2 nm2 cm2) (.slice v2 nv2 cv2) (.slice k2 ns2 cs2) (.string lg2) (.int .i64 sf2) (.slice d2 nd2 cd2) (.int .i64 sd2)
    rw [World.size_alloc] at this
    rw [hW]
    exact this
  have H1 : Hid (StoreIn lo1 W m1 nm1 cm1 v1 nv1 cv1 k1 ns1 cs1 d1 nd1 cd1 M1 V1 S1 U1) := h1.keep hB
  have H2 : Hid (StoreIn lo2 W m2 nm2 cm2 v2 nv2 cv2 k2 ns2 cs2 d2 nd2 cd2 M2 V2 S2 U2) := h2.keep hB
  have HB : Hid (Below w.heap.size w W) := hB
  have HX : Hid (Box9 W w.heap.size (.bool up1) (.int .i64 q1) (.slice m1 nm1 cm1) (.slice v1 nv1 cv1) (.slice k1 ns1 cs1) (.string lg1) (.int .i64 sf1) (.slice d1 nd1 cd1) (.int .i64 sd1)) := bx
  have HU : Hid (Box9 W (w.heap.size + 1) (.bool up2) (.int .i64 q2) (.slice m2 nm2 cm2) (.slice v2 nv2 cv2) (.slice k2 ns2 cs2) (.string lg2) (.int .i64 sf2) (.slice d2 nd2 cd2) (.int .i64 sd2)) := bu
  clear h1 h2 hB bx bu
  obtain ⟨bT, hT⟩ : ∃ b, treeSameB q1 M1 V1 S1 q2 M2 V2 S2 = b := ⟨_, rfl⟩
  obtain ⟨bV, hV⟩ : ∃ b, decide (U1 = U2) = b := ⟨_, rfl⟩
  have CT : Hid (∀ w', Below W.heap.size W w' → Calls Try.prog 87 #[.agg #[.int .i64 q1, .slice m1 nm1 cm1, .slice v1 nv1 cv1, .slice k1 ns1 cs1], .agg #[.int .i64 q2, .slice m2 nm2 cm2, .slice v2 nv2 cv2, .slice k2 ns2 cs2]] w' fun e w'' => e = .returned (.bool bT) ∧ Below w'.heap.size w' w'') := by rw [← hT]; exact fun w' k => specTreeSame q1 q2 lo1 lo2 _ _ _ _ _ _ _ _ _ _ _ _ _ _ _ _ _ _ M1 V1 S1 M2 V2 S2 w' (H1.out.keep k).tree (H2.out.keep k).tree
  have CV : Hid (∀ w', Below W.heap.size W w' → Calls Try.prog 88 #[.slice d1 nd1 cd1, .slice d2 nd2 cd2] w' fun e w'' => e = .returned (.bool bV) ∧ Below w'.heap.size w' w'') := by rw [← hV]; exact fun w' k => specLevels lo1 lo2 _ _ _ _ _ _ U1 U2 w' (H1.out.keep k).disk (H2.out.keep k).disk
  have HR : Hid ((storeSameB up1 q1 M1 V1 S1 lg1 sf1 U1 sd1 up2 q2 M2 V2 S2 lg2 sf2 U2 sd2) = (decide (up1 = up2) && (bT && (decide (lg1 = lg2) && (decide (sf1 = sf2) && (bV && decide (sd1 = sd2))))))) := by rw [← hT, ← hV]; rfl
  rw [HR.out]
  clear hT hV H1 H2 HR
  go_enter Try.func23, Try.ntmps23
  go_upto_region 1 with fail
  rw [← hW]
  clear hW
  have x0 := (HX.out).c0
  have y0 := (HU.out).c0
  have x1 := (HX.out).c1
  have y1 := (HU.out).c1
  have x2 := (HX.out).c2
  have y2 := (HU.out).c2
  have x3 := (HX.out).c3
  have y3 := (HU.out).c3
  have x4 := (HX.out).c4
  have y4 := (HU.out).c4
  have x5 := (HX.out).c5
  have y5 := (HU.out).c5
  have x6 := (HX.out).c6
  have y6 := (HU.out).c6
  have x7 := (HX.out).c7
  have y7 := (HU.out).c7
  have x8 := (HX.out).c8
  have y8 := (HU.out).c8
  have xz := (HX.out).lt
  have yz := (HU.out).lt
  by_cases hup : up1 = up2
  rotate_left
  · have hub : (up1 == up2) = false := by simpa using hup
    have HN : Hid (¬ up1 = up2) := hup
    clear hup
    go_wp2
    go_ret
    exact ⟨ret_bool (by simp [HN.out]), HB.out⟩
  subst hup
  go_wp2_with fail
  refine (CT.out _ (Below.refl _ _)).mono ?_
  rintro e w1 ⟨rfl, hb1⟩
  have K1 : Hid (Below W.heap.size W w1) := hb1
  clear x0 x1 x2 x3 x4 x5 x6 x7 x8 y0 y1 y2 y3 y4 y5 y6 y7 y8 xz yz
  have x5 := (HX.out.keep hb1).c5
  have y5 := (HU.out.keep hb1).c5
  have x6 := (HX.out.keep hb1).c6
  have y6 := (HU.out.keep hb1).c6
  have x7 := (HX.out.keep hb1).c7
  have y7 := (HU.out.keep hb1).c7
  have x8 := (HX.out.keep hb1).c8
  have y8 := (HU.out.keep hb1).c8
  have xz := (HX.out.keep hb1).lt
  have yz := (HU.out.keep hb1).lt
  clear hb1
  cases bT with
  | false =>
    go_wp2
    go_ret
    exact ⟨ret_bool (by simp), HB.out.trans (K1.out.mono HB.out.size)⟩
  | true =>
  by_cases hlg : lg1 = lg2
  rotate_left
  · have hb : (lg1.toList == lg2.toList) = false := by
      rw [beq_eq_false_iff_ne]
      intro e
      rw [ByteArray.toList_eq, ByteArray.toList_eq] at e
      exact hlg (ByteArray.ext (Array.toList_inj.1 e))
    have HN : Hid (¬ lg1 = lg2) := hlg
    clear hlg
    go_wp2
    go_ret
    exact ⟨ret_bool (by simp [HN.out]), HB.out.trans (K1.out.mono HB.out.size)⟩
  subst hlg
  by_cases hsf : sf1 = sf2
  rotate_left
  · have hb : (sf1 == sf2) = false := by simpa using hsf
    have HN : Hid (¬ sf1 = sf2) := hsf
    clear hsf
    go_wp2
    go_ret
    exact ⟨ret_bool (by simp [HN.out]), HB.out.trans (K1.out.mono HB.out.size)⟩
  subst hsf
  by_cases hsd : sd1 = sd2
  rotate_left
  · have hb : (sd1 == sd2) = false := by simpa using hsd
    have HN : Hid (¬ sd1 = sd2) := hsd
    clear hsd
    go_wp2
    go_ret
    exact ⟨ret_bool (by simp [HN.out]), HB.out.trans (K1.out.mono HB.out.size)⟩
  subst hsd
  go_wp2_with fail
  refine (CV.out _ K1.out).mono ?_
  rintro e w2 ⟨rfl, hb2⟩
  have K2 : Hid (Below W.heap.size W w2) := K1.out.trans (hb2.mono K1.out.size)
  clear hb2 K1
  go_wp2
  go_ret
  exact ⟨ret_bool (by simp), HB.out.trans (K2.out.mono HB.out.size)⟩

set_option maxRecDepth 100000 in
set_option maxHeartbeats 4000000 in
theorem implStoreSame (lo1 lo2 : Nat) (up1 : Bool) (q1 : Int) (m1 : Option Addr) (nm1 cm1 : Nat) (v1 : Option Addr) (nv1 cv1 : Nat) (k1 : Option Addr) (ns1 cs1 : Nat) (lg1 : ByteArray) (sf1 : Int) (d1 : Option Addr) (nd1 cd1 : Nat) (sd1 : Int) (M1 : List EntD) (V1 : List (List RunD)) (S1 : List Int) (U1 : List (List RunD)) (up2 : Bool) (q2 : Int) (m2 : Option Addr) (nm2 cm2 : Nat) (v2 : Option Addr) (nv2 cv2 : Nat) (k2 : Option Addr) (ns2 cs2 : Nat) (lg2 : ByteArray) (sf2 : Int) (d2 : Option Addr) (nd2 cd2 : Nat) (sd2 : Int) (M2 : List EntD) (V2 : List (List RunD)) (S2 : List Int) (U2 : List (List RunD)) (w : World) (h1 : StoreIn lo1 w m1 nm1 cm1 v1 nv1 cv1 k1 ns1 cs1 d1 nd1 cd1 M1 V1 S1 U1) (h2 : StoreIn lo2 w m2 nm2 cm2 v2 nv2 cv2 k2 ns2 cs2 d2 nd2 cd2 M2 V2 S2 U2) :
    Calls Try.prog 25 #[.agg #[.bool up1, .int .i64 q1, .slice m1 nm1 cm1, .slice v1 nv1 cv1, .slice k1 ns1 cs1, .string lg1, .int .i64 sf1, .slice d1 nd1 cd1, .int .i64 sd1], .agg #[.bool up2, .int .i64 q2, .slice m2 nm2 cm2, .slice v2 nv2 cv2, .slice k2 ns2 cs2, .string lg2, .int .i64 sf2, .slice d2 nd2 cd2, .int .i64 sd2]] w fun e w' => e = .returned (.bool (storeSameB up1 q1 M1 V1 S1 lg1 sf1 U1 sd1 up2 q2 M2 V2 S2 lg2 sf2 U2 sd2)) ∧ Below w.heap.size w w' := by
  obtain ⟨W, hW⟩ : ∃ W, W = (w.alloc (.cells #[.bool up1, .int .i64 q1, .slice m1 nm1 cm1, .slice v1 nv1 cv1, .slice k1 ns1 cs1, .string lg1, .int .i64 sf1, .slice d1 nd1 cd1, .int .i64 sd1] 39)).alloc (.cells #[.bool up2, .int .i64 q2, .slice m2 nm2 cm2, .slice v2 nv2 cv2, .slice k2 ns2 cs2, .string lg2, .int .i64 sf2, .slice d2 nd2 cd2, .int .i64 sd2] 39) := ⟨_, rfl⟩
  have hB : Below w.heap.size w W := by rw [hW]; exact ((Below.refl _ _).alloc (Nat.le_refl _) _).alloc (by simp) _
  have bx : Box9 W w.heap.size (.bool up1) (.int .i64 q1) (.slice m1 nm1 cm1) (.slice v1 nv1 cv1) (.slice k1 ns1 cs1) (.string lg1) (.int .i64 sf1) (.slice d1 nd1 cd1) (.int .i64 sd1) := by rw [hW]; exact (Box9.new _ _ _ _ _ _ _ _ _ _ _).alloc _
  have bu : Box9 W (w.heap.size + 1) (.bool up2) (.int .i64 q2) (.slice m2 nm2 cm2) (.slice v2 nv2 cv2) (.slice k2 ns2 cs2) (.string lg2) (.int .i64 sf2) (.slice d2 nd2 cd2) (.int .i64 sd2) := by
    have := Box9.new (w.alloc (.cells #[.bool up1, .int .i64 q1, .slice m1 nm1 cm1, .slice v1 nv1 cv1, .slice k1 ns1 cs1, .string lg1, .int .i64 sf1, .slice d1 nd1 cd1, .int .i64 sd1] 39)) 39 (.bool up2) (.int .i64 q2) (.slice m2 nm2 cm2) (.slice v2 nv2 cv2) (.slice k2 ns2 cs2) (.string lg2) (.int .i64 sf2) (.slice d2 nd2 cd2) (.int .i64 sd2)
    rw [World.size_alloc] at this
    rw [hW]
    exact this
  have H1 : Hid (StoreIn lo1 W m1 nm1 cm1 v1 nv1 cv1 k1 ns1 cs1 d1 nd1 cd1 M1 V1 S1 U1) := h1.keep hB
  have H2 : Hid (StoreIn lo2 W m2 nm2 cm2 v2 nv2 cv2 k2 ns2 cs2 d2 nd2 cd2 M2 V2 S2 U2) := h2.keep hB
  have HB : Hid (Below w.heap.size w W) := hB
  have HX : Hid (Box9 W w.heap.size (.bool up1) (.int .i64 q1) (.slice m1 nm1 cm1) (.slice v1 nv1 cv1) (.slice k1 ns1 cs1) (.string lg1) (.int .i64 sf1) (.slice d1 nd1 cd1) (.int .i64 sd1)) := bx
  have HU : Hid (Box9 W (w.heap.size + 1) (.bool up2) (.int .i64 q2) (.slice m2 nm2 cm2) (.slice v2 nv2 cv2) (.slice k2 ns2 cs2) (.string lg2) (.int .i64 sf2) (.slice d2 nd2 cd2) (.int .i64 sd2)) := bu
  clear h1 h2 hB bx bu
  obtain ⟨bT, hT⟩ : ∃ b, treeSameB q1 M1 V1 S1 q2 M2 V2 S2 = b := ⟨_, rfl⟩
  obtain ⟨bV, hV⟩ : ∃ b, decide (U1 = U2) = b := ⟨_, rfl⟩
  have CT : Hid (∀ w', Below W.heap.size W w' → Calls Try.prog 90 #[.agg #[.int .i64 q1, .slice m1 nm1 cm1, .slice v1 nv1 cv1, .slice k1 ns1 cs1], .agg #[.int .i64 q2, .slice m2 nm2 cm2, .slice v2 nv2 cv2, .slice k2 ns2 cs2]] w' fun e w'' => e = .returned (.bool bT) ∧ Below w'.heap.size w' w'') := by rw [← hT]; exact fun w' k => implTreeSame q1 q2 lo1 lo2 _ _ _ _ _ _ _ _ _ _ _ _ _ _ _ _ _ _ M1 V1 S1 M2 V2 S2 w' (H1.out.keep k).tree (H2.out.keep k).tree
  have CV : Hid (∀ w', Below W.heap.size W w' → Calls Try.prog 91 #[.slice d1 nd1 cd1, .slice d2 nd2 cd2, .func (.func 92) #[] #[]] w' fun e w'' => e = .returned (.bool bV) ∧ Below w'.heap.size w' w'') := by rw [← hV]; exact fun w' k => levelsEqual lo1 lo2 _ _ _ _ _ _ U1 U2 w' (H1.out.keep k).disk (H2.out.keep k).disk
  have HR : Hid ((storeSameB up1 q1 M1 V1 S1 lg1 sf1 U1 sd1 up2 q2 M2 V2 S2 lg2 sf2 U2 sd2) = (decide (up1 = up2) && (bT && (decide (lg1 = lg2) && (decide (sf1 = sf2) && (bV && decide (sd1 = sd2))))))) := by rw [← hT, ← hV]; rfl
  rw [HR.out]
  clear hT hV H1 H2 HR
  go_enter Try.func25, Try.ntmps25
  go_upto_region 1 with fail
  rw [← hW]
  clear hW
  have x0 := (HX.out).c0
  have y0 := (HU.out).c0
  have x1 := (HX.out).c1
  have y1 := (HU.out).c1
  have x2 := (HX.out).c2
  have y2 := (HU.out).c2
  have x3 := (HX.out).c3
  have y3 := (HU.out).c3
  have x4 := (HX.out).c4
  have y4 := (HU.out).c4
  have x5 := (HX.out).c5
  have y5 := (HU.out).c5
  have x6 := (HX.out).c6
  have y6 := (HU.out).c6
  have x7 := (HX.out).c7
  have y7 := (HU.out).c7
  have x8 := (HX.out).c8
  have y8 := (HU.out).c8
  have xz := (HX.out).lt
  have yz := (HU.out).lt
  by_cases hup : up1 = up2
  rotate_left
  · have hub : (up1 == up2) = false := by simpa using hup
    have HN : Hid (¬ up1 = up2) := hup
    clear hup
    go_wp2
    go_ret
    exact ⟨ret_bool (by simp [HN.out]), HB.out⟩
  subst hup
  go_wp2_with fail
  refine (CT.out _ (Below.refl _ _)).mono ?_
  rintro e w1 ⟨rfl, hb1⟩
  have K1 : Hid (Below W.heap.size W w1) := hb1
  clear x0 x1 x2 x3 x4 x5 x6 x7 x8 y0 y1 y2 y3 y4 y5 y6 y7 y8 xz yz
  have x5 := (HX.out.keep hb1).c5
  have y5 := (HU.out.keep hb1).c5
  have x6 := (HX.out.keep hb1).c6
  have y6 := (HU.out.keep hb1).c6
  have x7 := (HX.out.keep hb1).c7
  have y7 := (HU.out.keep hb1).c7
  have x8 := (HX.out.keep hb1).c8
  have y8 := (HU.out.keep hb1).c8
  have xz := (HX.out.keep hb1).lt
  have yz := (HU.out.keep hb1).lt
  clear hb1
  cases bT with
  | false =>
    go_wp2
    go_ret
    exact ⟨ret_bool (by simp), HB.out.trans (K1.out.mono HB.out.size)⟩
  | true =>
  by_cases hlg : lg1 = lg2
  rotate_left
  · have hb : (lg1.toList == lg2.toList) = false := by
      rw [beq_eq_false_iff_ne]
      intro e
      rw [ByteArray.toList_eq, ByteArray.toList_eq] at e
      exact hlg (ByteArray.ext (Array.toList_inj.1 e))
    have HN : Hid (¬ lg1 = lg2) := hlg
    clear hlg
    go_wp2
    go_ret
    exact ⟨ret_bool (by simp [HN.out]), HB.out.trans (K1.out.mono HB.out.size)⟩
  subst hlg
  by_cases hsf : sf1 = sf2
  rotate_left
  · have hb : (sf1 == sf2) = false := by simpa using hsf
    have HN : Hid (¬ sf1 = sf2) := hsf
    clear hsf
    go_wp2
    go_ret
    exact ⟨ret_bool (by simp [HN.out]), HB.out.trans (K1.out.mono HB.out.size)⟩
  subst hsf
  go_wp2_with fail
  refine (CV.out _ K1.out).mono ?_
  rintro e w2 ⟨rfl, hb2⟩
  have x8 := cell_later hb2 x8
  have y8 := cell_later hb2 y8
  have xz := Nat.lt_of_lt_of_le xz hb2.size
  have yz := Nat.lt_of_lt_of_le yz hb2.size
  have K2 : Hid (Below W.heap.size W w2) := K1.out.trans (hb2.mono K1.out.size)
  clear hb2 K1
  cases bV with
  | false =>
    go_wp2
    go_ret
    exact ⟨ret_bool (by simp), HB.out.trans (K2.out.mono HB.out.size)⟩
  | true =>
  by_cases hsd : sd1 = sd2
  · subst hsd
    go_wp2
    go_ret
    exact ⟨ret_bool (by simp), HB.out.trans (K2.out.mono HB.out.size)⟩
  · have hb : (sd1 == sd2) = false := by simpa using hsd
    have HN : Hid (¬ sd1 = sd2) := hsd
    clear hsd
    go_wp2
    go_ret
    exact ⟨ret_bool (by simp [HN.out]), HB.out.trans (K2.out.mono HB.out.size)⟩
end Go.Proofs.Ytkeodfajgpbgaaa
