/-
  The walk of the law FnExactTreeCell: it answers true at every tree, key and time.
-/
import Derived.Test.YtlmgojlffgkciaaGreatCe48
import Derived.Test.YtlmgojlffgkciaaGreatCe41
namespace Go.Proofs.YtlmgojlffgkciaaGreat
open Go.RowKit
set_option maxRecDepth 100000
set_option maxHeartbeats 4000000
theorem cells_three (w : World) (u0 u1 u2 : Value) (t : TypeId) : (w.alloc (.cells #[u0, u1, u2] t)).cell? ⟨w.heap.size, 0, none⟩ = some u0 ∧ (w.alloc (.cells #[u0, u1, u2] t)).cell? ⟨w.heap.size, 1, none⟩ = some u1 ∧ (w.alloc (.cells #[u0, u1, u2] t)).cell? ⟨w.heap.size, 2, none⟩ = some u2 ∧ w.heap.size < (w.alloc (.cells #[u0, u1, u2] t)).heap.size := by
  refine ⟨?_, ?_, ?_, ?_⟩ <;> simp
theorem walkGTreeCell (q1 : Int) (m1 : Option Addr) (nm1 cm1 : Nat) (v1 : Option Addr) (nv1 cv1 : Nat) (k1 : Option Addr) (ns1 cs1 : Nat) (M1 : List EntD) (V1 : List (List RunD)) (S1 : List Int) (key : ByteArray) (seq : Int) (rb : Bool) (rt : ByteArray) (rn : Int) (w : World) (hT1 : TreeIn 0 w m1 nm1 cm1 v1 nv1 cv1 k1 ns1 cs1 M1 V1 S1)
    (hCS : ∀ (a b c : Nat) (w' : World), TreeIn 0 w' (some ⟨a, 0, none⟩) nm1 nm1 (some ⟨b, 0, none⟩) nv1 nv1 (some ⟨c, 0, none⟩) ns1 ns1 M1 V1 S1 → Calls Tryz.prog 19 #[.agg #[.int .i64 q1, .slice (some ⟨a, 0, none⟩) nm1 nm1, .slice (some ⟨b, 0, none⟩) nv1 nv1, .slice (some ⟨c, 0, none⟩) ns1 ns1], .string key, .int .i64 seq] w' fun e w'' => e = .returned (.agg #[.bool rb, .string rt, .int .i64 rn]) ∧ Below w'.heap.size w' w'') (hCI : ∀ (a b c : Nat) (w' : World), TreeIn 0 w' (some ⟨a, 0, none⟩) nm1 nm1 (some ⟨b, 0, none⟩) nv1 nv1 (some ⟨c, 0, none⟩) ns1 ns1 M1 V1 S1 → LevNN w' b V1 → Calls Tryz.prog 20 #[.agg #[.int .i64 q1, .slice (some ⟨a, 0, none⟩) nm1 nm1, .slice (some ⟨b, 0, none⟩) nv1 nv1, .slice (some ⟨c, 0, none⟩) ns1 ns1], .string key, .int .i64 seq] w' fun e w'' => e = .returned (.agg #[.bool rb, .string rt, .int .i64 rn]) ∧ Below w'.heap.size w' w'') :
    Calls Tryz.prog 5 #[.agg #[.int .i64 q1, .slice m1 nm1 cm1, .slice v1 nv1 cv1, .slice k1 ns1 cs1], .string key, .int .i64 seq] w fun e w' => e = .returned (.bool true) ∧ Below w.heap.size w w' := by
  have H1 : Hid (TreeIn 0 w m1 nm1 cm1 v1 nv1 cv1 k1 ns1 cs1 M1 V1 S1) := hT1
  have CS : Hid (∀ (a b c : Nat) (w' : World), TreeIn 0 w' (some ⟨a, 0, none⟩) nm1 nm1 (some ⟨b, 0, none⟩) nv1 nv1 (some ⟨c, 0, none⟩) ns1 ns1 M1 V1 S1 → Calls Tryz.prog 19 #[.agg #[.int .i64 q1, .slice (some ⟨a, 0, none⟩) nm1 nm1, .slice (some ⟨b, 0, none⟩) nv1 nv1, .slice (some ⟨c, 0, none⟩) ns1 ns1], .string key, .int .i64 seq] w' fun e w'' => e = .returned (.agg #[.bool rb, .string rt, .int .i64 rn]) ∧ Below w'.heap.size w' w'') := hCS
  have CI : Hid (∀ (a b c : Nat) (w' : World), TreeIn 0 w' (some ⟨a, 0, none⟩) nm1 nm1 (some ⟨b, 0, none⟩) nv1 nv1 (some ⟨c, 0, none⟩) ns1 ns1 M1 V1 S1 → LevNN w' b V1 → Calls Tryz.prog 20 #[.agg #[.int .i64 q1, .slice (some ⟨a, 0, none⟩) nm1 nm1, .slice (some ⟨b, 0, none⟩) nv1 nv1, .slice (some ⟨c, 0, none⟩) ns1 ns1], .string key, .int .i64 seq] w' fun e w'' => e = .returned (.agg #[.bool rb, .string rt, .int .i64 rn]) ∧ Below w'.heap.size w' w'') := hCI
  clear hT1 hCS hCI
  obtain ⟨X, hX⟩ : ∃ X, X = w.heap.size := ⟨_, rfl⟩
  obtain ⟨W, hW⟩ : ∃ W, W = w.alloc (.cells #[.int .i64 q1, .slice m1 nm1 cm1, .slice v1 nv1 cv1, .slice k1 ns1 cs1] 26) := ⟨_, rfl⟩
  have kW : Below w.heap.size w W := by rw [hW]; exact (Below.refl _ _).alloc (Nat.le_refl _) _
  have bx : At4 W X (.int .i64 q1) (.slice m1 nm1 cm1) (.slice v1 nv1 cv1) (.slice k1 ns1 cs1) := by rw [hW, hX]; exact At4.new _ _ _ _ _ _
  have K0 : Hid (Below w.heap.size w W) := kW
  have BX : Hid (At4 W X (.int .i64 q1) (.slice m1 nm1 cm1) (.slice v1 nv1 cv1) (.slice k1 ns1 cs1)) := bx
  clear kW bx
  by_cases hkey : (1048576 : Int) < (key.size : Int)
  · go_enter Tryz.func5, Tryz.ntmps5
    go_wp2
    rw [← hW]
    go_ret
    exact ⟨rfl, K0.out⟩
  go_enter Tryz.func5, Tryz.ntmps5
  go_wp2_with fail
  rw [← hX, ← hW]
  clear hW hX
  refine (szTree_sum _ 0 _ _ _ _ _ _ _ _ _ M1 V1 S1 _ _ (H1.out.keep K0.out) (by omega) (by omega)).mono ?_
  rintro e w4 ⟨r, rfl, hr, hb3⟩
  have K4 : Hid (Below w.heap.size w w4) := K0.out.trans (hb3.mono K0.out.size)
  have BX4 : Hid (At4 w4 X (.int .i64 q1) (.slice m1 nm1 cm1) (.slice v1 nv1 cv1) (.slice k1 ns1 cs1)) := BX.out.keep hb3
  clear hb3 BX K0
  rcases hr with rfl | ⟨hr0, hr1, hsm, hsv⟩
  · go_wp2
    go_ret
    exact ⟨rfl, K4.out⟩
  have HSUM : Hid (M1.length + (szV V1 + V1.length) + S1.length ≤ 1048576) := by show _ ≤ _; omega
  have SM1 : Hid (SmallT M1 V1 S1) := small_of_sum HSUM.out
  clear hsm hsv hr1
  have x0 := BX4.out.c0
  have x1 := BX4.out.c1
  have x2 := BX4.out.c2
  have x3 := BX4.out.c3
  have xz := BX4.out.lt
  go_wp2_with fail
  clear x0 x1 x2 x3 xz
  refine (toTree_any q1 0 _ _ _ _ _ _ _ _ _ M1 V1 S1 _ (H1.out.keep K4.out) SM1.out).mono ?_
  rintro e w5 ⟨a5, b5, c5, rfl, hT5, hb5⟩
  have K5 : Hid (Below w.heap.size w w5) := K4.out.trans (hb5.mono K4.out.size)
  have BX5 : Hid (At4 w5 X (.int .i64 q1) (.slice m1 nm1 cm1) (.slice v1 nv1 cv1) (.slice k1 ns1 cs1)) := BX4.out.keep hb5
  have T5 : Hid (TreeIn 0 w5 (some ⟨a5, 0, none⟩) nm1 nm1 (some ⟨b5, 0, none⟩) nv1 nv1 (some ⟨c5, 0, none⟩) ns1 ns1 M1 V1 S1) := hT5.lowR (Nat.zero_le _)
  clear hb5 hT5 BX4 K4
  go_wp2_with fail
  refine (CS.out _ _ _ _ T5.out).mono ?_
  rintro e w55 ⟨rfl, hb55⟩
  obtain ⟨P, hP⟩ : ∃ P, P = w55.heap.size := ⟨_, rfl⟩
  obtain ⟨w6, hw6⟩ : ∃ w6, w6 = w55.alloc (.cells #[.bool rb, .string rt, .int .i64 rn] 41) := ⟨_, rfl⟩
  have k6 : Below w55.heap.size w55 w6 := by rw [hw6]; exact (Below.refl _ _).alloc (Nat.le_refl _) _
  have K6 : Hid (Below w.heap.size w w6) := (K5.out.trans (hb55.mono K5.out.size)).trans (k6.mono (Nat.le_trans K5.out.size hb55.size))
  have BX6 : Hid (At4 w6 X (.int .i64 q1) (.slice m1 nm1 cm1) (.slice v1 nv1 cv1) (.slice k1 ns1 cs1)) := (BX5.out.keep hb55).keep k6
  have BP6 : Hid (w6.cell? ⟨P, 0, none⟩ = some (.bool rb) ∧ w6.cell? ⟨P, 1, none⟩ = some (.string rt) ∧ w6.cell? ⟨P, 2, none⟩ = some (.int .i64 rn) ∧ P < w6.heap.size) := by rw [hw6, hP]; exact cells_three _ _ _ _ _
  clear hb55 k6 BX5 K5 T5
  go_upto_region 8 with fail
  rw [← hw6]
  try rw [← hP]
  clear hw6 hP
  have x0 := BX6.out.c0
  have x1 := BX6.out.c1
  have x2 := BX6.out.c2
  have x3 := BX6.out.c3
  have xz := BX6.out.lt
  go_wp2_with fail
  clear x0 x1 x2 x3 xz
  refine (toTree_bl q1 0 _ _ _ _ _ _ _ _ _ M1 V1 S1 _ (H1.out.keep K6.out) SM1.out).mono ?_
  rintro e w8 ⟨a8, b8, c8, rfl, hT8, hB8, hb8⟩
  obtain ⟨Y, hY⟩ : ∃ Y, Y = w8.heap.size := ⟨_, rfl⟩
  obtain ⟨W8, hW8⟩ : ∃ W8, W8 = w8.alloc (.cells #[.int .i64 q1, .slice (some ⟨a8, 0, none⟩) nm1 nm1, .slice (some ⟨b8, 0, none⟩) nv1 nv1, .slice (some ⟨c8, 0, none⟩) ns1 ns1] 31) := ⟨_, rfl⟩
  have k8 : Below w8.heap.size w8 W8 := by rw [hW8]; exact (Below.refl _ _).alloc (Nat.le_refl _) _
  have L8 : Hid (Below w6.heap.size w6 W8) := hb8.trans (k8.mono hb8.size)
  have T8 : Hid (TreeIn 0 W8 (some ⟨a8, 0, none⟩) nm1 nm1 (some ⟨b8, 0, none⟩) nv1 nv1 (some ⟨c8, 0, none⟩) ns1 ns1 M1 V1 S1) := (hT8.lowR (Nat.zero_le _)).keep k8
  have N8 : Hid (LevNN W8 b8 V1) := hB8.levNN.keep k8
  have BY8 : Hid (At4 W8 Y (.int .i64 q1) (.slice (some ⟨a8, 0, none⟩) nm1 nm1) (.slice (some ⟨b8, 0, none⟩) nv1 nv1) (.slice (some ⟨c8, 0, none⟩) ns1 ns1)) := by rw [hW8, hY]; exact At4.new _ _ _ _ _ _
  clear hb8 hT8 hB8 k8
  go_wp2_with fail
  rw [← hW8]
  try rw [← hY]
  clear hW8 hY
  refine (CI.out _ _ _ _ T8.out N8.out).mono ?_
  rintro e w11 ⟨rfl, hb11⟩
  obtain ⟨G, hG⟩ : ∃ G, G = w11.heap.size := ⟨_, rfl⟩
  obtain ⟨w12, hw12⟩ : ∃ w12, w12 = w11.alloc (.cells #[.bool rb, .string rt, .int .i64 rn] 41) := ⟨_, rfl⟩
  have k12 : Below w11.heap.size w11 w12 := by rw [hw12]; exact (Below.refl _ _).alloc (Nat.le_refl _) _
  have kall : Below W8.heap.size W8 w12 := hb11.trans (k12.mono hb11.size)
  have L12 : Hid (Below w6.heap.size w6 w12) := L8.out.trans (kall.mono L8.out.size)
  have T12 : Hid (TreeIn 0 w12 (some ⟨a8, 0, none⟩) nm1 nm1 (some ⟨b8, 0, none⟩) nv1 nv1 (some ⟨c8, 0, none⟩) ns1 ns1 M1 V1 S1) := T8.out.keep kall
  have BY12 : Hid (At4 w12 Y (.int .i64 q1) (.slice (some ⟨a8, 0, none⟩) nm1 nm1) (.slice (some ⟨b8, 0, none⟩) nv1 nv1) (.slice (some ⟨c8, 0, none⟩) ns1 ns1)) := BY8.out.keep kall
  have BG12 : Hid (w12.cell? ⟨G, 0, none⟩ = some (.bool rb) ∧ w12.cell? ⟨G, 1, none⟩ = some (.string rt) ∧ w12.cell? ⟨G, 2, none⟩ = some (.int .i64 rn) ∧ G < w12.heap.size) := by rw [hw12, hG]; exact cells_three _ _ _ _ _
  clear hb11 k12 kall L8 T8 N8 BY8
  go_upto_region 10 with fail
  rw [← hw12]
  try rw [← hG]
  clear hw12 hG
  obtain ⟨y0, y1, y2, yz⟩ := BG12.out
  obtain ⟨p0, p1, p2, pz⟩ := BP6.out
  have p0 := cell_later L12.out p0
  have p1 := cell_later L12.out p1
  have p2 := cell_later L12.out p2
  have pz := Nat.lt_of_lt_of_le pz L12.out.size
  go_wp2_with fail
  clear y0 y1 y2 yz p0 p1 p2 pz
  refine (eqCell_same rb rt rn _).mono ?_
  rintro e w13 ⟨rfl, hb13⟩
  have L13 : Hid (Below w6.heap.size w6 w13) := L12.out.trans (hb13.mono L12.out.size)
  have T13 : Hid (TreeIn 0 w13 (some ⟨a8, 0, none⟩) nm1 nm1 (some ⟨b8, 0, none⟩) nv1 nv1 (some ⟨c8, 0, none⟩) ns1 ns1 M1 V1 S1) := T12.out.keep hb13
  have BY13 : Hid (At4 w13 Y (.int .i64 q1) (.slice (some ⟨a8, 0, none⟩) nm1 nm1) (.slice (some ⟨b8, 0, none⟩) nv1 nv1) (.slice (some ⟨c8, 0, none⟩) ns1 ns1)) := BY12.out.keep hb13
  clear hb13 L12 T12 BY12 BG12
  go_wp2_with fail
  have k0 : Below w13.heap.size w13 w13.drew := (Below.refl _ w13).drew
  have bx13 := BX6.out.keep L13.out
  have HMK : Hid (∀ w', Below w13.heap.size w13 w' → (fun w' => w'.cell? ⟨Y, 0, none⟩ = some (.int .i64 q1) ∧ w'.cell? ⟨Y, 1, none⟩ = some (.slice (some ⟨a8, 0, none⟩) nm1 nm1) ∧ w'.cell? ⟨Y, 2, none⟩ = some (.slice (some ⟨b8, 0, none⟩) nv1 nv1) ∧ w'.cell? ⟨Y, 3, none⟩ = some (.slice (some ⟨c8, 0, none⟩) ns1 ns1) ∧ Y < w'.heap.size ∧ w'.cell? ⟨X, 0, none⟩ = some (.int .i64 q1) ∧ w'.cell? ⟨X, 1, none⟩ = some (.slice m1 nm1 cm1) ∧ w'.cell? ⟨X, 2, none⟩ = some (.slice v1 nv1 cv1) ∧ w'.cell? ⟨X, 3, none⟩ = some (.slice k1 ns1 cs1) ∧ X < w'.heap.size) w') := fun w' kk => ⟨cell_later kk BY13.out.c0, cell_later kk BY13.out.c1, cell_later kk BY13.out.c2, cell_later kk BY13.out.c3, Nat.lt_of_lt_of_le BY13.out.lt kk.size, cell_later kk bx13.c0, cell_later kk bx13.c1, cell_later kk bx13.c2, cell_later kk bx13.c3, Nat.lt_of_lt_of_le bx13.lt kk.size⟩
  refine wp_region_held_drew (S := (fun w' => w'.cell? ⟨Y, 0, none⟩ = some (.int .i64 q1) ∧ w'.cell? ⟨Y, 1, none⟩ = some (.slice (some ⟨a8, 0, none⟩) nm1 nm1) ∧ w'.cell? ⟨Y, 2, none⟩ = some (.slice (some ⟨b8, 0, none⟩) nv1 nv1) ∧ w'.cell? ⟨Y, 3, none⟩ = some (.slice (some ⟨c8, 0, none⟩) ns1 ns1) ∧ Y < w'.heap.size ∧ w'.cell? ⟨X, 0, none⟩ = some (.int .i64 q1) ∧ w'.cell? ⟨X, 1, none⟩ = some (.slice m1 nm1 cm1) ∧ w'.cell? ⟨X, 2, none⟩ = some (.slice v1 nv1 cv1) ∧ w'.cell? ⟨X, 3, none⟩ = some (.slice k1 ns1 cs1) ∧ X < w'.heap.size)) (by kernel_rfl) (HMK.out _ k0) (fun hHeld => ?_)
  refine tkL 0 hHeld ?_; try go_frame
  refine tkL 1 hHeld ?_; try go_frame
  refine wpAnyH_ready (rs := [2]) (by kernel_rfl) (by simp) ?_
  refine consL rfl (fun K hK => ?_) AllReadyH.nil
  go_simp
  refine (toTree_any q1 0 m1 v1 k1 nm1 cm1 nv1 cv1 ns1 cs1 M1 V1 S1 _ (H1.out.keep ((K6.out.trans (L13.out.mono K6.out.size)).trans (k0.mono (Nat.le_trans K6.out.size L13.out.size)))) SM1.out).mono ?_
  rintro e w14 ⟨a14, b14, c14, rfl, hT14, hb14⟩
  have k1' : Below w13.heap.size w13 w14 := k0.trans (hb14.mono k0.size)
  have T14 : Hid (TreeIn 0 w14 (some ⟨a14, 0, none⟩) nm1 nm1 (some ⟨b14, 0, none⟩) nv1 nv1 (some ⟨c14, 0, none⟩) ns1 ns1 M1 V1 S1) := hT14.lowR (Nat.zero_le _)
  clear hT14
  go_wp2_with fail
  refine hK.out _ _ (HMK.out _ k1') (fun hHeld => ?_)
  clear hK K
  try go_frame
  refine wpAnyH_ready (rs := [3]) (by kernel_rfl) (by simp) ?_
  refine consL rfl (fun K hK => ?_) AllReadyH.nil
  go_simp
  refine (eqTree_opt q1 0 0 _ _ _ _ _ _ _ _ _ _ _ _ _ _ _ M1 V1 S1 _ (T13.out.keep k1') T14.out).mono ?_
  rintro e w15 ⟨rfl, b15⟩
  have k2 : Below w13.heap.size w13 w15 := k1'.trans (b15.mono k1'.size)
  go_wp2_with fail
  refine hK.out _ _ (HMK.out _ k2) (fun hHeld => ?_)
  clear hK K
  try go_frame
  refine tkL 4 hHeld ?_; try go_frame
  refine wpAnyH_done (by kernel_rfl) ?_ _
  have HB15 : Hid (Below w.heap.size w w15) := (K6.out.trans (L13.out.mono K6.out.size)).trans (k2.mono (Nat.le_trans K6.out.size L13.out.size))
  clear k0 k1' k2 HMK L13 T13 BY13 hHeld hb14 b15 T14 bx13
  go_wp2
  go_ret
  exact ⟨rfl, HB15.out⟩
theorem shareNo (lo : Nat) (sq : Int) (am av ak : Option Addr) (nm cm nv cv nk ck : Nat) (M : List EntD) (V : List (List RunD)) (S : List Int) (w : World) (hT : TreeIn lo w am nm cm av nv cv ak nk ck M V S) (htb : treeB sq M V S = false) :
    Calls Tryz.prog 53 #[.agg #[.int .i64 sq, .slice am nm cm, .slice av nv cv, .slice ak nk ck]] w fun e w2 => (∃ (q' : Int) (m' x0 x1 x2 k' : Value), e = .returned (.tuple #[.agg #[.int .i64 q', m', x0, x1, x2, k'], .bool false]) ∧ (∃ a n c, m' = .slice a n c) ∧ (∃ a n c, x0 = .slice a n c) ∧ (∃ a n c, x1 = .slice a n c) ∧ (∃ a n c, x2 = .slice a n c) ∧ (∃ a n c, k' = .slice a n c)) ∧ Below w.heap.size w w2 := by
  have HVN : Hid (V.length = nv) := hT.levels.length
  have k : Below w.heap.size w w := Below.refl _ w
  by_cases hn : nv = 3
  · subst hn
    obtain ⟨A, B, C, hV3⟩ : ∃ A B C, V = [A, B, C] := by
      have := HVN.out
      match V, this with
      | [A, B, C], _ => exact ⟨A, B, C, rfl⟩
    subst hV3
    obtain ⟨b, off, rfl, hbb⟩ := hT.levels.form (by omega)
    obtain ⟨A', a0, n0, c0, hA, l0, hR0⟩ := hT.levels.level (Below.refl _ w) 0 (by omega)
    obtain ⟨B', a1, n1, c1, hB, l1, hR1⟩ := hT.levels.level (Below.refl _ w) 1 (by omega)
    obtain ⟨C', a2, n2, c2, hC, l2, hR2⟩ := hT.levels.level (Below.refl _ w) 2 (by omega)
    simp only [List.getElem?_cons_zero, List.getElem?_cons_succ, Option.some.injEq] at hA hB hC
    subst hA hB hC
    rw [Nat.add_zero] at l0
    have := implShare lo sq am ak nm cm b off cv nk ck M A B C S a0 a1 a2 n0 c0 n1 c1 n2 c2 w (hT.mem.1.keep k) (hT.snaps.keep k) (hR0.keep k) (hR1.keep k) (hR2.keep k) (cell_later k l0) (cell_later k l1) (cell_later k l2)
    rw [htb] at this
    refine this.mono ?_
    rintro e w2 ⟨rfl, hb⟩
    exact ⟨⟨_, _, _, _, _, _, rfl, ⟨_, _, _, rfl⟩, ⟨_, _, _, rfl⟩, ⟨_, _, _, rfl⟩, ⟨_, _, _, rfl⟩, ⟨_, _, _, rfl⟩⟩, hb⟩
  · refine (implShareNo sq am av ak nm cm nv cv nk ck w hn).mono ?_
    rintro e w2 ⟨rfl, hb⟩
    exact ⟨⟨_, _, _, _, _, _, rfl, ⟨_, _, _, rfl⟩, ⟨_, _, _, rfl⟩, ⟨_, _, _, rfl⟩, ⟨_, _, _, rfl⟩, ⟨_, _, _, rfl⟩⟩, hb⟩
theorem walkFnExactTreeCell (q1 : Int) (m1 : Option Addr) (nm1 cm1 : Nat) (v1 : Option Addr) (nv1 cv1 : Nat) (k1 : Option Addr) (ns1 cs1 : Nat) (M1 : List EntD) (V1 : List (List RunD)) (S1 : List Int) (key : ByteArray) (seq : Int) (w : World) (w0 : (Lit.int .i64 q1).wf = true ∧ TreeIn 0 w m1 nm1 cm1 v1 nv1 cv1 k1 ns1 cs1 M1 V1 S1) {Pk : Prop} (_w1 : Pk) (_w2 : (Lit.int .i64 seq).wf = true) :
    Calls Tryz.prog 5 #[.agg #[.int .i64 q1, .slice m1 nm1 cm1, .slice v1 nv1 cv1, .slice k1 ns1 cs1], .string key, .int .i64 seq] w fun e w' => e = .returned (.bool true) ∧ Below w.heap.size w w' := by
  obtain ⟨RC, hRC⟩ : ∃ RC : CellD, RC = if treeB q1 M1 V1 S1 = true then treeCellL M1 V1 key seq else (false, ⟨#[]⟩, 0) := ⟨_, rfl⟩
  refine walkGTreeCell q1 m1 nm1 cm1 v1 nv1 cv1 k1 ns1 cs1 M1 V1 S1 key seq RC.1 RC.2.1 RC.2.2 w w0.2 (fun a b c w' hT => ?_) (fun a b c w' hT hN => ?_)
  · have h := specTreeCell 0 q1 _ _ _ _ _ _ _ _ _ M1 V1 S1 key seq w' hT
    rw [← hRC] at h
    exact h
  · cases htb : treeB q1 M1 V1 S1 with
    | true =>
      rw [htb, if_pos rfl] at hRC
      obtain ⟨A, B, C, e0, n0, c0, e1, n1, c1, e2, n2, c2, rfl, rfl, hsh, hCS⟩ := hT.shareN htb hN
      obtain ⟨hl, hok, ha1, ha2⟩ := tree_levels htb
      have hM60 := (tree_parts htb).2.2.1
      have hml := hT.mem.1.length
      refine implTreeCellYes q1 _ _ _ _ _ _ _ _ _ _ _ _ _ _ ⟨⟨_, _, _, rfl⟩, ⟨_, _, _, rfl⟩, ⟨_, _, _, rfl⟩, ⟨_, _, _, rfl⟩, ⟨_, _, _, rfl⟩⟩ key seq _ _ _ w' hCS (fun w2 k2 => ?_)
      have h := implCell q1 a nm1 nm1 e0 n0 c0 e1 n1 c1 e2 n2 c2 _ ns1 ns1 M1 A B C S1 key seq w2 (hsh.keep k2) (by omega) hl.1 hl.2.1 hl.2.2 (tree_parts htb).2.2.2.1 hok ha1 ha2
      rw [hRC]
      exact h
    | false =>
      rw [htb] at hRC
      simp only [Bool.false_eq_true, if_false] at hRC
      rw [hRC]
      exact implTreeCellNo q1 _ _ _ _ _ _ _ _ _ key seq w' (fun w2 k2 => shareNo 0 q1 _ _ _ _ _ _ _ _ _ M1 V1 S1 w2 (hT.keep k2) htb)
end Go.Proofs.YtlmgojlffgkciaaGreat
