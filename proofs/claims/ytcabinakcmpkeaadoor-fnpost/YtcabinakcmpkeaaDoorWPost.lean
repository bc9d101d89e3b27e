/-
  The walk of the law FnPost: it answers true at all bytes.
-/
import Derived.Test.YtcabinakcmpkeaaDoorWExactPostRead
import Derived.Test.YtcabinakcmpkeaaDoorDrawPT
import Derived.Test.YtcabinakcmpkeaaDoorDrawPR
import Derived.Test.YtcabinakcmpkeaaDoorSameI
import Derived.Test.YtcabinakcmpkeaaDoorHeld
import Derived.Test.YtcabinakcmpkeaaDoorPostOkS
import Derived.Test.YtcabinakcmpkeaaDoorPostOkI
namespace Go.Proofs.YtcabinakcmpkeaaDoor
open Go.RowKit Go.Shelf

theorem postT_ne {id : Int} {L : List LegD} (h : postB id L = true) : postT id L ≠ [] := by
  have h1 := textB_size h
  rw [textB, if_pos h] at h1
  intro e
  rw [e] at h1
  exact absurd h1.1 (by decide)
/-- What a posting's text is the text of. -/
theorem known_text (id : Int) (L : List LegD) : (postB id L = true ∧ Known (textB id L) id L true) ∨ (postB id L = false ∧ Known (textB id L) 0 [] false) := by
  cases h : postB id L with
  | true => exact Or.inl ⟨rfl, Or.inl ⟨rfl, h, by rw [textB, if_pos h]⟩⟩
  | false =>
    refine Or.inr ⟨rfl, Or.inr ⟨rfl, rfl, rfl, fun id' L' h' e => postT_ne h' ?_⟩⟩
    rw [textB, if_neg (by rw [h]; decide)] at e
    exact e.symm
theorem PLeg.at {w : World} {a : Option Addr} {n c : Nat} {L : List LegD} (h : PLeg w (.slice a n c) L) : LegsAt w a n c L := by
  rcases h with ⟨rfl, h⟩ | ⟨b, cap, h, _, h2⟩
  · cases h
    exact { length := rfl, room := Nat.le_refl _, big := (by unfold maxLen; omega), legs := (fun l hl => by simp at hl), nil := fun _ => rfl, lies := (fun x e _ => by cases e), cells := (fun x e _ _ => by cases e) }
  · cases h
    exact h2
theorem sameB_self (id : Int) (L : List LegD) : sameB id L id L = true := by simp [sameB]

set_option maxRecDepth 100000 in
set_option maxHeartbeats 4000000 in
theorem walkFnPost (a1 : Option Addr) (len1 cap1 : Nat) (a2 : Option Addr) (len2 cap2 : Nat) (w : World) (h1 : BytesAt w a1 len1 cap1) (h2 : BytesAt w a2 len2 cap2) (hW : RdW w.heap.size w) :
    Calls Tryd.prog 7 #[.slice a1 len1 cap1, .slice a2 len2 cap2] w fun e w' => e = .returned (.bool true) ∧ Below w.heap.size w w' := by
  have HW : Hid (RdW w.heap.size w) := hW
  have H1 : Hid (BytesAt w a1 len1 cap1) := h1
  have H2 : Hid (BytesAt w a2 len2 cap2) := h2
  have hm1 := Nat.le_trans h1.1 h1.2.1
  have hm2 := Nat.le_trans h2.1 h2.2.1
  unfold maxLen at hm1 hm2
  clear h1 h2 hW
  by_cases hb1 : 1048576 < len1
  · go_enter Tryd.func7, Tryd.ntmps7
    go_wp2
    go_ret
    exact ⟨rfl, Below.refl _ _⟩
  by_cases hb2 : 1048576 < len2
  · go_enter Tryd.func7, Tryd.ntmps7
    go_wp2
    go_ret
    exact ⟨rfl, Below.refl _ _⟩
  go_enter Tryd.func7, Tryd.ntmps7
  go_wp2_with fail
  refine (drawPText_any _ _ _ _ H1.out).mono ?_
  rintro e w1 ⟨id, b, n, c, L, rfl, D1, hn, k1⟩
  have L1 : Hid (LegsAt w1 (some ⟨b, 0, none⟩) n c L) := D1.legsAt
  clear D1
  go_wp2_with fail
  obtain ⟨W1, hW1⟩ : ∃ W, W = w1.alloc (.cells #[.int .i64 id, .slice (some ⟨b, 0, none⟩) n c] 29) := ⟨_, rfl⟩
  have hz1 : w1.heap.size < W1.heap.size := by rw [hW1]; simp
  have r0 : W1.cell? ⟨w1.heap.size, 0, none⟩ = some (.int .i64 id) := by rw [hW1]; simp
  have r1 : W1.cell? ⟨w1.heap.size, 1, none⟩ = some (.slice (some ⟨b, 0, none⟩) n c) := by rw [hW1]; simp
  have kA : Below w1.heap.size w1 W1 := by rw [hW1]; exact (Below.refl _ _).alloc (Nat.le_refl _) _
  have KA : Hid (Below w.heap.size w W1) := k1.trans (kA.mono k1.size)
  have P1 : Hid (LegsAt W1 (some ⟨b, 0, none⟩) n c L) := L1.out.keep kA
  rw [← hW1]
  obtain ⟨X, hX⟩ : ∃ X, X = w1.heap.size := ⟨_, rfl⟩
  rw [← hX] at r0 r1 hz1 ⊢
  clear hW1 hX kA L1 k1
  refine (implText id _ _ _ L _ P1.out ((HW.out.at KA.out).t _ (Below.refl _ _))).mono ?_
  rintro e w2 ⟨rfl, k2⟩
  have s0 := cell_later k2 r0
  have s1 := cell_later k2 r1
  have hz2 := Nat.lt_of_lt_of_le hz1 k2.size
  have KB : Hid (Below W1.heap.size W1 w2) := k2
  have hTz : (textB id L).size ≤ 1048576 := by
    cases h : postB id L with
    | true => have := textB_size h; omega
    | false => rw [textB, if_neg (by rw [h]; decide)]; decide
  obtain ⟨S, hS⟩ : ∃ S, S = textB id L := ⟨_, rfl⟩
  have KT : Hid ((postB id L = true ∧ Known S id L true) ∨ (postB id L = false ∧ Known S 0 [] false)) := by rw [hS]; exact known_text id L
  have ES : Hid (S = textB id L) := hS
  rw [← hS] at hTz ⊢
  clear hS r0 r1 k2 hz1
  go_wp2_with fail
  have RW := HW.out.at (KA.out.trans (KB.out.mono KA.out.size))
  refine (implRead S _ hTz RW.e RW.p RW.t).mono ?_
  rintro e w3 ⟨hR3, k3⟩
  obtain ⟨id', L', bo, hk, hbo⟩ : ∃ id' L' bo, Known S id' L' bo ∧ (bo = postB id L ∧ (bo = true → id' = id ∧ L' = L)) := by
    rcases KT.out with ⟨h1, h2⟩ | ⟨h1, h2⟩
    · exact ⟨_, _, _, h2, h1.symm, fun _ => ⟨rfl, rfl⟩⟩
    · exact ⟨_, _, _, h2, h1.symm, fun h => by cases h⟩
  obtain ⟨v3, rfl, hN3⟩ := hR3.as hk
  have hP3 := hN3.legs hk.legs.2
  obtain ⟨a3, c3, rfl⟩ := own_form hN3.1
  obtain ⟨n3, hn3⟩ : ∃ n, n = L'.length := ⟨_, rfl⟩
  rw [← hn3] at hP3 ⊢
  have P3 : Hid (LegsAt w3 a3 n3 c3 L') := hP3.at
  have HBO : Hid (bo = postB id L ∧ (bo = true → id' = id ∧ L' = L)) := hbo
  have t0 := cell_later k3 s0
  have t1 := cell_later k3 s1
  have hz3 := Nat.lt_of_lt_of_le hz2 k3.size
  have KC : Hid (Below W1.heap.size W1 w3) := KB.out.trans (k3.mono KB.out.size)
  clear hR3 hk hbo hN3 hP3 hn3 s0 s1 k3 hz2 RW KB
  obtain ⟨W3, hW3⟩ : ∃ W, W = w3.alloc (.cells #[.int .i64 id', .slice a3 n3 c3] 29) := ⟨_, rfl⟩
  have kA : Below w3.heap.size w3 W3 := by rw [hW3]; exact (Below.refl _ _).alloc (Nat.le_refl _) _
  have x0 := cell_later kA t0
  have x1 := cell_later kA t1
  have hx := Nat.lt_of_lt_of_le hz3 kA.size
  have y0 : W3.cell? ⟨w3.heap.size, 0, none⟩ = some (.int .i64 id') := by rw [hW3]; simp
  have y1 : W3.cell? ⟨w3.heap.size, 1, none⟩ = some (.slice a3 n3 c3) := by rw [hW3]; simp
  have hy : w3.heap.size < W3.heap.size := by rw [hW3]; simp
  have KD : Hid (Below W1.heap.size W1 W3) := KC.out.trans (kA.mono KC.out.size)
  have E1 : Hid (LegsAt W3 (some ⟨b, 0, none⟩) n c L) := P1.out.keep KD.out
  have E3 : Hid (LegsAt W3 a3 n3 c3 L') := P3.out.keep kA
  have CT : Hid (∀ w', Below W3.heap.size W3 w' → Calls Tryd.prog 10 #[.agg #[.int .i64 id, .slice (some ⟨b, 0, none⟩) n c]] w' fun e w'' => e = .returned (.string S) ∧ Below w'.heap.size w' w'') := by rw [ES.out]; exact fun w' k => specText id _ _ _ L w' (E1.out.keep k)
  have CO : Hid (∀ w', Below W3.heap.size W3 w' → Calls Tryd.prog 29 #[.agg #[.int .i64 id, .slice (some ⟨b, 0, none⟩) n c]] w' fun e w'' => e = .returned (.bool bo) ∧ Below w'.heap.size w' w'') := by rw [HBO.out.1]; exact fun w' k => implPostOk id _ _ _ L w' (E1.out.keep k)
  have CK : Hid (∀ w', Below W3.heap.size W3 w' → Calls Tryd.prog 30 #[.agg #[.int .i64 id, .slice (some ⟨b, 0, none⟩) n c]] w' fun e w'' => e = .returned (.bool bo) ∧ Below w'.heap.size w' w'') := by rw [HBO.out.1]; exact fun w' k => specPostOk id _ _ _ L w' (E1.out.keep k)
  have CI : Hid (bo = true → ∀ w', Below W3.heap.size W3 w' → Calls Tryd.prog 31 #[.agg #[.int .i64 id', .slice a3 n3 c3], .agg #[.int .i64 id, .slice (some ⟨b, 0, none⟩) n c]] w' fun e w'' => e = .returned (.bool true) ∧ Below w'.heap.size w' w'') := by
    intro h w' k
    obtain ⟨e1, e2⟩ := HBO.out.2 h
    rw [← sameB_self id L]
    have := implSame id' id _ _ _ _ _ _ L' L w' (E3.out.keep k) (E1.out.keep k)
    rw [e1, e2] at this
    rw [e1]
    exact this
  obtain ⟨Y, hY⟩ : ∃ Y, Y = w3.heap.size := ⟨_, rfl⟩
  rw [← hY] at y0 y1 hy
  have HMK : Hid (∀ w', Below W3.heap.size W3 w' → (w'.cell? ⟨X, 0, none⟩ = some (.int .i64 id) ∧ w'.cell? ⟨X, 1, none⟩ = some (.slice (some ⟨b, 0, none⟩) n c) ∧ X < w'.heap.size ∧ w'.cell? ⟨Y, 0, none⟩ = some (.int .i64 id') ∧ w'.cell? ⟨Y, 1, none⟩ = some (.slice a3 n3 c3) ∧ Y < w'.heap.size)) := fun w' k => ⟨cell_later k x0, cell_later k x1, Nat.lt_of_lt_of_le hx k.size, cell_later k y0, cell_later k y1, Nat.lt_of_lt_of_le hy k.size⟩
  have k0 : Below W3.heap.size W3 W3.drew := (Below.refl _ W3).drew
  go_wp2_with fail
  rw [← hW3, ← hY]
  clear hW3 hY kA t0 t1 hz3 y0 y1 hy x0 x1 hx KC P1 P3
  cases bo with
  | true =>
    have CJ := CI.out rfl
    have HJ : Hid (∀ w', Below W3.heap.size W3 w' → Calls Tryd.prog 31 #[.agg #[.int .i64 id', .slice a3 n3 c3], .agg #[.int .i64 id, .slice (some ⟨b, 0, none⟩) n c]] w' fun e w'' => e = .returned (.bool true) ∧ Below w'.heap.size w' w'') := CJ
    clear CJ CI HBO
    go_region_held3 (fun w' => w'.cell? ⟨X, 0, none⟩ = some (.int .i64 id) ∧ w'.cell? ⟨X, 1, none⟩ = some (.slice (some ⟨b, 0, none⟩) n c) ∧ X < w'.heap.size ∧ w'.cell? ⟨Y, 0, none⟩ = some (.int .i64 id') ∧ w'.cell? ⟨Y, 1, none⟩ = some (.slice a3 n3 c3) ∧ Y < w'.heap.size) (first | (with_reducible exact HMK.out _ k0) | (with_reducible exact HMK.out _ k1) | (with_reducible exact HMK.out _ k2) | (with_reducible exact HMK.out _ k3) | (with_reducible exact HMK.out _ k4) | (with_reducible exact HMK.out _ k5)) (first
      | (go_at_call 10; refine (CT.out _ k0).mono ?_; rintro e wk1 ⟨rfl, hb1⟩; have k1 : Below W3.heap.size W3 wk1 := k0.trans (hb1.mono k0.size))
      | (go_at_call 29; refine (CO.out _ k1).mono ?_; rintro e wk2 ⟨rfl, hb2⟩; have k2 : Below W3.heap.size W3 wk2 := k1.trans (hb2.mono k1.size))
      | (go_at_call 30; refine (CK.out _ k2).mono ?_; rintro e wk3 ⟨rfl, hb3⟩; have k3 : Below W3.heap.size W3 wk3 := k2.trans (hb3.mono k2.size))
      | (go_at_call 30; refine (CK.out _ k3).mono ?_; rintro e wk4 ⟨rfl, hb4⟩; have k4 : Below W3.heap.size W3 wk4 := k3.trans (hb4.mono k3.size))
      | (go_at_call 31; refine (HJ.out _ k4).mono ?_; rintro e wk5 ⟨rfl, hb5⟩; have k5 : Below W3.heap.size W3 wk5 := k4.trans (hb5.mono k4.size)))
    all_goals
      have KE : Hid (Below w.heap.size w wk5) := KA.out.trans ((KD.out.trans (k5.mono KD.out.size)).mono KA.out.size)
      clear CT CO CK HJ HMK E1 E3 KA KD ES KT
      clear hb1 hb2 hb3 hb4 hb5 k0 k1 k2 k3 k4 k5
      go_wp2_with fail
      refine (drawPRead_any _ _ _ _ (H2.out.keep KE.out)).mono ?_
      rintro e u1 ⟨T, rfl, hTs, g1⟩
      have KF : Hid (Below w.heap.size w u1) := KE.out.trans (g1.mono KE.out.size)
      clear g1 KE
      go_wp2_with fail
      have RW := HW.out.at KF.out
      refine (implRead T _ (by omega) RW.e RW.p RW.t).mono ?_
      rintro e u2 ⟨hR2, g2⟩
      obtain ⟨id5, L5, b5, hk⟩ := hR2.known
      obtain ⟨v5, rfl, hN5⟩ := hR2.as hk
      have HK : Hid (Known T id5 L5 b5) := hk
      have hP5 := hN5.legs hk.legs.2
      obtain ⟨a5, c5, rfl⟩ := own_form hN5.1
      obtain ⟨n5, hn5⟩ : ∃ n, n = L5.length := ⟨_, rfl⟩
      have HN5 : Hid (n5 = L5.length) := hn5
      rw [← hn5] at hP5 ⊢
      have P5 : Hid (LegsAt u2 a5 n5 c5 L5) := hP5.at
      have KG : Hid (Below w.heap.size w u2) := KF.out.trans (g2.mono KF.out.size)
      clear hR2 hk hN5 hP5 hn5 g2 RW KF
      go_wp2_with fail
      obtain ⟨U2, hU2⟩ : ∃ W, W = u2.alloc (.cells #[.int .i64 id5, .slice a5 n5 c5] 29) := ⟨_, rfl⟩
      have kB : Below u2.heap.size u2 U2 := by rw [hU2]; exact (Below.refl _ _).alloc (Nat.le_refl _) _
      have y0 : U2.cell? ⟨u2.heap.size, 0, none⟩ = some (.int .i64 id5) := by rw [hU2]; simp
      have y1 : U2.cell? ⟨u2.heap.size, 1, none⟩ = some (.slice a5 n5 c5) := by rw [hU2]; simp
      have hy : u2.heap.size < U2.heap.size := by rw [hU2]; simp
      have KH : Hid (Below w.heap.size w U2) := KG.out.trans (kB.mono KG.out.size)
      have P6 : Hid (LegsAt U2 a5 n5 c5 L5) := P5.out.keep kB
      rw [← hU2]
      obtain ⟨Z, hZ⟩ : ∃ Z, Z = u2.heap.size := ⟨_, rfl⟩
      rw [← hZ] at y0 y1 hy ⊢
      clear hU2 hZ kB KG P5
      refine (specRead T _ (by omega)).mono ?_
      rintro e u3 ⟨hR3, g3⟩
      obtain ⟨v7, rfl, hN7⟩ := hR3.as HK.out
      have hP7 := hN7.legs HK.out.legs.2
      obtain ⟨a7, c7, rfl⟩ := own_form hN7.1
      rw [← HN5.out] at hP7 ⊢
      have z0 := cell_later g3 y0
      have z1 := cell_later g3 y1
      have hz := Nat.lt_of_lt_of_le hy g3.size
      have P7 : Hid (LegsAt u3 a7 n5 c7 L5) := hP7.at
      have P8 : Hid (LegsAt u3 a5 n5 c5 L5) := P6.out.keep g3
      have KI : Hid (Below w.heap.size w u3) := KH.out.trans (g3.mono KH.out.size)
      clear hR3 hN7 hP7 y0 y1 hy g3 P6 KH HN5
      obtain ⟨U3, hU3⟩ : ∃ W, W = u3.alloc (.cells #[.int .i64 id5, .slice a7 n5 c7] 29) := ⟨_, rfl⟩
      have kC : Below u3.heap.size u3 U3 := by rw [hU3]; exact (Below.refl _ _).alloc (Nat.le_refl _) _
      have o0 : U3.cell? ⟨u3.heap.size, 0, none⟩ = some (.int .i64 id5) := by rw [hU3]; simp
      have o1 : U3.cell? ⟨u3.heap.size, 1, none⟩ = some (.slice a7 n5 c7) := by rw [hU3]; simp
      have ho : u3.heap.size < U3.heap.size := by rw [hU3]; simp
      have y0 := cell_later kC z0
      have y1 := cell_later kC z1
      have hy := Nat.lt_of_lt_of_le hz kC.size
      have KJ : Hid (Below w.heap.size w U3) := KI.out.trans (kC.mono KI.out.size)
      have E5 : Hid (LegsAt U3 a5 n5 c5 L5) := P8.out.keep kC
      have E7 : Hid (LegsAt U3 a7 n5 c7 L5) := P7.out.keep kC
      have o0' : U3.cell? ⟨u3.heap.size, 0, none⟩ = some (.int .i64 id5) := o0
      clear o0'
      clear P7 P8 kC KI
      have HY : Hid (U3.cell? ⟨Z, 0, none⟩ = some (.int .i64 id5) ∧ U3.cell? ⟨Z, 1, none⟩ = some (.slice a5 n5 c5) ∧ Z < U3.heap.size) := ⟨y0, y1, hy⟩
      clear y0 y1 hy o0 o1 ho
      go_wp2_with fail
      rw [← hU3]
      refine (implSame _ _ _ _ _ _ _ _ L5 L5 _ E5.out E7.out).mono ?_
      rw [sameB_self]
      rintro e u4 ⟨rfl, g4⟩
      have q0 := cell_later g4 HY.out.1
      have q1 := cell_later g4 HY.out.2.1
      have hq := Nat.lt_of_lt_of_le HY.out.2.2 g4.size
      have KK : Hid (Below w.heap.size w u4) := KJ.out.trans (g4.mono KJ.out.size)
      have E8 : Hid (LegsAt u4 a5 n5 c5 L5) := E5.out.keep g4
      clear g4 HY E5 E7 KJ hU3 z0 z1 hz
      cases b5 with
      | false =>
        go_wp2
        go_ret
        exact ⟨rfl, KK.out⟩
      | true =>
        have hpt : Hid (postB id5 L5 = true ∧ textB id5 L5 = T) := by
          rcases HK.out with ⟨_, h1, h2⟩ | ⟨h1, _⟩
          · exact ⟨h1, by rw [textB, if_pos h1]; apply bytes_ext; rw [ByteArray.toList_eq, ByteArray.toList_eq]; exact h2.symm⟩
          · cases h1
        go_wp2_with fail
        refine (implText id5 _ _ _ L5 _ E8.out ((HW.out.at KK.out).t _ (Below.refl _ _))).mono ?_
        rw [hpt.out.2]
        rintro e u5 ⟨rfl, g5⟩
        have p0 := cell_later g5 q0
        have p1 := cell_later g5 q1
        have hp := Nat.lt_of_lt_of_le hq g5.size
        have KL : Hid (Below w.heap.size w u5) := KK.out.trans (g5.mono KK.out.size)
        have E9 : Hid (LegsAt u5 a5 n5 c5 L5) := E8.out.keep g5
        clear q0 q1 hq g5 KK E8
        go_wp2_with fail
        refine (implPostOk id5 _ _ _ L5 _ E9.out).mono ?_
        rw [hpt.out.1]
        rintro e u6 ⟨rfl, g6⟩
        have KM : Hid (Below w.heap.size w u6) := KL.out.trans (g6.mono KL.out.size)
        clear g6 KL E9
        go_wp2
        go_ret
        exact ⟨rfl, KM.out⟩
  | false =>
    clear CI HBO
    refine wp_region_held_drew (S := (fun w' => w'.cell? ⟨X, 0, none⟩ = some (.int .i64 id) ∧ w'.cell? ⟨X, 1, none⟩ = some (.slice (some ⟨b, 0, none⟩) n c) ∧ X < w'.heap.size ∧ w'.cell? ⟨Y, 0, none⟩ = some (.int .i64 id') ∧ w'.cell? ⟨Y, 1, none⟩ = some (.slice a3 n3 c3) ∧ Y < w'.heap.size)) (by kernel_rfl) (HMK.out _ k0) (fun hHeld => ?_)
    refine wpAnyH_takeL (i := 0) (v := ?_) rfl (by kernel_rfl) (by kernel_rfl) (by kernel_rfl) (fun _ _ _ h => h) (Or.inl ⟨by rfl, ?_⟩) hHeld ?_
    rotate_left
    · (intro w hSw; (try dsimp only at hSw); go_simp; try with_reducible rfl)
    try go_frame
    refine wpAnyH_takeL (i := 1) (v := ?_) rfl (by kernel_rfl) (by kernel_rfl) (by kernel_rfl) (fun _ _ _ h => h) (Or.inl ⟨by rfl, ?_⟩) hHeld ?_
    rotate_left
    · (intro w hSw; (try dsimp only at hSw); go_simp; try with_reducible rfl)
    try go_frame
    refine wpAnyH_ready (rs := [2]) (by kernel_rfl) (by simp) ?_
    refine consL rfl (fun K hK => ?_) AllReadyH.nil
    go_simp
    refine (CT.out _ k0).mono ?_
    rintro e wk1 ⟨rfl, hb1⟩
    have k1 : Below W3.heap.size W3 wk1 := k0.trans (hb1.mono k0.size)
    go_wp2_with fail
    refine hK.out _ _ (HMK.out _ k1) (fun hHeld => ?_)
    clear hK K
    try go_frame
    refine wpAnyH_takeL (i := 3) (v := ?_) rfl (by kernel_rfl) (by kernel_rfl) (by kernel_rfl) (fun _ _ _ h => h) (Or.inl ⟨by rfl, ?_⟩) hHeld ?_
    rotate_left
    · (intro w hSw; (try dsimp only at hSw); go_simp; try with_reducible rfl)
    try go_frame
    refine wpAnyH_takeL (i := 4) (v := ?_) rfl (by kernel_rfl) (by kernel_rfl) (by kernel_rfl) (fun _ _ _ h => h) (Or.inl ⟨by rfl, ?_⟩) hHeld ?_
    rotate_left
    · (intro w hSw; (try dsimp only at hSw); go_simp; try with_reducible rfl)
    try go_frame
    refine wpAnyH_takeL (i := 5) (v := ?_) rfl (by kernel_rfl) (by kernel_rfl) (by kernel_rfl) (fun _ _ _ h => h) (Or.inl ⟨by rfl, ?_⟩) hHeld ?_
    rotate_left
    · (intro w hSw; (try dsimp only at hSw); go_simp; try with_reducible rfl)
    try go_frame
    refine wpAnyH_takeL (i := 7) (v := ?_) rfl (by kernel_rfl) (by kernel_rfl) (by kernel_rfl) (fun _ _ _ h => h) (Or.inl ⟨by rfl, ?_⟩) hHeld ?_
    rotate_left
    · (intro w hSw; (try dsimp only at hSw); go_simp; try with_reducible rfl)
    try go_frame
    refine wpAnyH_ready (rs := [6]) (by kernel_rfl) (by simp) ?_
    refine consL rfl (fun K hK => ?_) AllReadyH.nil
    go_simp
    refine (CO.out _ k1).mono ?_
    rintro e wk2 ⟨rfl, hb2⟩
    have k2 : Below W3.heap.size W3 wk2 := k1.trans (hb2.mono k1.size)
    go_wp2_with fail
    refine hK.out _ _ (HMK.out _ k2) (fun hHeld => ?_)
    clear hK K
    try go_frame
    refine wpAnyH_ready (rs := [8]) (by kernel_rfl) (by simp) ?_
    refine consL rfl (fun K hK => ?_) AllReadyH.nil
    go_simp
    refine (CK.out _ k2).mono ?_
    rintro e wk3 ⟨rfl, hb3⟩
    have k3 : Below W3.heap.size W3 wk3 := k2.trans (hb3.mono k2.size)
    go_wp2_with fail
    refine hK.out _ _ (HMK.out _ k3) (fun hHeld => ?_)
    clear hK K
    try go_frame
    refine wpAnyH_takeL (i := 9) (v := ?_) rfl (by kernel_rfl) (by kernel_rfl) (by kernel_rfl) (fun _ _ _ h => h) (Or.inl ⟨by rfl, ?_⟩) hHeld ?_
    rotate_left
    · (intro w hSw; (try dsimp only at hSw); go_simp; try with_reducible rfl)
    try go_frame
    refine wpAnyH_takeL (i := 10) (v := ?_) rfl (by kernel_rfl) (by kernel_rfl) (by kernel_rfl) (fun _ _ _ h => h) (Or.inl ⟨by rfl, ?_⟩) hHeld ?_
    rotate_left
    · (intro w hSw; (try dsimp only at hSw); go_simp; try with_reducible rfl)
    try go_frame
    refine wpAnyH_takeL (i := 11) (v := ?_) rfl (by kernel_rfl) (by kernel_rfl) (by kernel_rfl) (fun _ _ _ h => h) (Or.inl ⟨by rfl, ?_⟩) hHeld ?_
    rotate_left
    · (intro w hSw; (try dsimp only at hSw); go_simp; try with_reducible rfl)
    try go_frame
    refine wpAnyH_takeL (i := 12) (v := ?_) rfl (by kernel_rfl) (by kernel_rfl) (by kernel_rfl) (fun _ _ _ h => h) (Or.inl ⟨by rfl, ?_⟩) hHeld ?_
    rotate_left
    · (intro w hSw; (try dsimp only at hSw); go_simp; try with_reducible rfl)
    try go_frame
    refine wpAnyH_takeL (i := 13) (v := ?_) rfl (by kernel_rfl) (by kernel_rfl) (by kernel_rfl) (fun _ _ _ h => h) (Or.inl ⟨by rfl, ?_⟩) hHeld ?_
    rotate_left
    · (intro w hSw; (try dsimp only at hSw); go_simp; try with_reducible rfl)
    try go_frame
    refine wpAnyH_ready (rs := [14]) (by kernel_rfl) (by simp) ?_
    refine consL rfl (fun K hK => ?_) AllReadyH.nil
    go_simp
    refine (CK.out _ k3).mono ?_
    rintro e wk4 ⟨rfl, hb4⟩
    have k4 : Below W3.heap.size W3 wk4 := k3.trans (hb4.mono k3.size)
    go_wp2_with fail
    refine hK.out _ _ (HMK.out _ k4) (fun hHeld => ?_)
    clear hK K
    try go_frame
    refine wpAnyH_takeL (i := 15) (v := ?_) rfl (by kernel_rfl) (by kernel_rfl) (by kernel_rfl) (fun _ _ _ h => h) (Or.inl ⟨by rfl, ?_⟩) hHeld ?_
    rotate_left
    · (intro w hSw; (try dsimp only at hSw); go_simp; try with_reducible rfl)
    try go_frame
    refine wpAnyH_takeL (i := 16) (v := ?_) rfl (by kernel_rfl) (by kernel_rfl) (by kernel_rfl) (fun _ _ _ h => h) (Or.inl ⟨by rfl, ?_⟩) hHeld ?_
    rotate_left
    · (intro w hSw; (try dsimp only at hSw); go_simp; try with_reducible rfl)
    try go_frame
    refine wpAnyH_takeL (i := 17) (v := ?_) rfl (by kernel_rfl) (by kernel_rfl) (by kernel_rfl) (fun _ _ _ h => h) (Or.inl ⟨by rfl, ?_⟩) hHeld ?_
    rotate_left
    · (intro w hSw; (try dsimp only at hSw); go_simp; try with_reducible rfl)
    try go_frame
    refine wpAnyH_takeL (i := 18) (v := ?_) rfl (by kernel_rfl) (by kernel_rfl) (by kernel_rfl) (fun _ _ _ h => h) (Or.inl ⟨by rfl, ?_⟩) hHeld ?_
    rotate_left
    · (intro w hSw; (try dsimp only at hSw); go_simp; try with_reducible rfl)
    try go_frame
    refine wpAnyH_takeL (i := 19) (v := ?_) rfl (by kernel_rfl) (by kernel_rfl) (by kernel_rfl) (fun _ _ _ h => h) (Or.inl ⟨by rfl, ?_⟩) hHeld ?_
    rotate_left
    · (intro w hSw; (try dsimp only at hSw); go_simp; try with_reducible rfl)
    try go_frame
    refine wpAnyH_takeL (i := 20) (v := undef) rfl (by kernel_rfl) (by kernel_rfl) (by kernel_rfl) (fun _ _ _ h => h) (Or.inr ⟨by rfl, rfl⟩) hHeld ?_
    try go_frame
    refine wpAnyH_takeL (i := 21) (v := undef) rfl (by kernel_rfl) (by kernel_rfl) (by kernel_rfl) (fun _ _ _ h => h) (Or.inr ⟨by rfl, rfl⟩) hHeld ?_
    try go_frame
    refine wpAnyH_ready (rs := [22]) (by kernel_rfl) (by simp) ?_
    refine consL rfl (fun K hK => ?_) AllReadyH.nil
    go_simp
    refine hK.out _ _ (HMK.out _ k4) (fun hHeld => ?_)
    clear hK K
    try go_frame
    refine wpAnyH_takeL (i := 23) (v := undef) rfl (by kernel_rfl) (by kernel_rfl) (by kernel_rfl) (fun _ _ _ h => h) (Or.inr ⟨by rfl, rfl⟩) hHeld ?_
    try go_frame
    refine wpAnyH_takeL (i := 24) (v := ?_) rfl (by kernel_rfl) (by kernel_rfl) (by kernel_rfl) (fun _ _ _ h => h) (Or.inl ⟨by rfl, ?_⟩) hHeld ?_
    rotate_left
    · (intro w hSw; (try dsimp only at hSw); go_simp; try with_reducible rfl)
    try go_frame
    refine wpAnyH_takeL (i := 25) (v := ?_) rfl (by kernel_rfl) (by kernel_rfl) (by kernel_rfl) (fun _ _ _ h => h) (Or.inl ⟨by rfl, ?_⟩) hHeld ?_
    rotate_left
    · (intro w hSw; (try dsimp only at hSw); go_simp; try with_reducible rfl)
    try go_frame
    refine wpAnyH_done (by kernel_rfl) ?_ _
    all_goals
      have KE : Hid (Below w.heap.size w wk4) := KA.out.trans ((KD.out.trans (k4.mono KD.out.size)).mono KA.out.size)
      clear CT CO CK HMK E1 E3 KA KD ES KT
      clear hb1 hb2 hb3 hb4 k0 k1 k2 k3 k4
      go_wp2_with fail
      refine (drawPRead_any _ _ _ _ (H2.out.keep KE.out)).mono ?_
      rintro e u1 ⟨T, rfl, hTs, g1⟩
      have KF : Hid (Below w.heap.size w u1) := KE.out.trans (g1.mono KE.out.size)
      clear g1 KE
      go_wp2_with fail
      have RW := HW.out.at KF.out
      refine (implRead T _ (by omega) RW.e RW.p RW.t).mono ?_
      rintro e u2 ⟨hR2, g2⟩
      obtain ⟨id5, L5, b5, hk⟩ := hR2.known
      obtain ⟨v5, rfl, hN5⟩ := hR2.as hk
      have HK : Hid (Known T id5 L5 b5) := hk
      have hP5 := hN5.legs hk.legs.2
      obtain ⟨a5, c5, rfl⟩ := own_form hN5.1
      obtain ⟨n5, hn5⟩ : ∃ n, n = L5.length := ⟨_, rfl⟩
      have HN5 : Hid (n5 = L5.length) := hn5
      rw [← hn5] at hP5 ⊢
      have P5 : Hid (LegsAt u2 a5 n5 c5 L5) := hP5.at
      have KG : Hid (Below w.heap.size w u2) := KF.out.trans (g2.mono KF.out.size)
      clear hR2 hk hN5 hP5 hn5 g2 RW KF
      go_wp2_with fail
      obtain ⟨U2, hU2⟩ : ∃ W, W = u2.alloc (.cells #[.int .i64 id5, .slice a5 n5 c5] 29) := ⟨_, rfl⟩
      have kB : Below u2.heap.size u2 U2 := by rw [hU2]; exact (Below.refl _ _).alloc (Nat.le_refl _) _
      have y0 : U2.cell? ⟨u2.heap.size, 0, none⟩ = some (.int .i64 id5) := by rw [hU2]; simp
      have y1 : U2.cell? ⟨u2.heap.size, 1, none⟩ = some (.slice a5 n5 c5) := by rw [hU2]; simp
      have hy : u2.heap.size < U2.heap.size := by rw [hU2]; simp
      have KH : Hid (Below w.heap.size w U2) := KG.out.trans (kB.mono KG.out.size)
      have P6 : Hid (LegsAt U2 a5 n5 c5 L5) := P5.out.keep kB
      rw [← hU2]
      obtain ⟨Z, hZ⟩ : ∃ Z, Z = u2.heap.size := ⟨_, rfl⟩
      rw [← hZ] at y0 y1 hy ⊢
      clear hU2 hZ kB KG P5
      refine (specRead T _ (by omega)).mono ?_
      rintro e u3 ⟨hR3, g3⟩
      obtain ⟨v7, rfl, hN7⟩ := hR3.as HK.out
      have hP7 := hN7.legs HK.out.legs.2
      obtain ⟨a7, c7, rfl⟩ := own_form hN7.1
      rw [← HN5.out] at hP7 ⊢
      have z0 := cell_later g3 y0
      have z1 := cell_later g3 y1
      have hz := Nat.lt_of_lt_of_le hy g3.size
      have P7 : Hid (LegsAt u3 a7 n5 c7 L5) := hP7.at
      have P8 : Hid (LegsAt u3 a5 n5 c5 L5) := P6.out.keep g3
      have KI : Hid (Below w.heap.size w u3) := KH.out.trans (g3.mono KH.out.size)
      clear hR3 hN7 hP7 y0 y1 hy g3 P6 KH HN5
      obtain ⟨U3, hU3⟩ : ∃ W, W = u3.alloc (.cells #[.int .i64 id5, .slice a7 n5 c7] 29) := ⟨_, rfl⟩
      have kC : Below u3.heap.size u3 U3 := by rw [hU3]; exact (Below.refl _ _).alloc (Nat.le_refl _) _
      have o0 : U3.cell? ⟨u3.heap.size, 0, none⟩ = some (.int .i64 id5) := by rw [hU3]; simp
      have o1 : U3.cell? ⟨u3.heap.size, 1, none⟩ = some (.slice a7 n5 c7) := by rw [hU3]; simp
      have ho : u3.heap.size < U3.heap.size := by rw [hU3]; simp
      have y0 := cell_later kC z0
      have y1 := cell_later kC z1
      have hy := Nat.lt_of_lt_of_le hz kC.size
      have KJ : Hid (Below w.heap.size w U3) := KI.out.trans (kC.mono KI.out.size)
      have E5 : Hid (LegsAt U3 a5 n5 c5 L5) := P8.out.keep kC
      have E7 : Hid (LegsAt U3 a7 n5 c7 L5) := P7.out.keep kC
      have o0' : U3.cell? ⟨u3.heap.size, 0, none⟩ = some (.int .i64 id5) := o0
      clear o0'
      clear P7 P8 kC KI
      have HY : Hid (U3.cell? ⟨Z, 0, none⟩ = some (.int .i64 id5) ∧ U3.cell? ⟨Z, 1, none⟩ = some (.slice a5 n5 c5) ∧ Z < U3.heap.size) := ⟨y0, y1, hy⟩
      clear y0 y1 hy o0 o1 ho
      go_wp2_with fail
      rw [← hU3]
      refine (implSame _ _ _ _ _ _ _ _ L5 L5 _ E5.out E7.out).mono ?_
      rw [sameB_self]
      rintro e u4 ⟨rfl, g4⟩
      have q0 := cell_later g4 HY.out.1
      have q1 := cell_later g4 HY.out.2.1
      have hq := Nat.lt_of_lt_of_le HY.out.2.2 g4.size
      have KK : Hid (Below w.heap.size w u4) := KJ.out.trans (g4.mono KJ.out.size)
      have E8 : Hid (LegsAt u4 a5 n5 c5 L5) := E5.out.keep g4
      clear g4 HY E5 E7 KJ hU3 z0 z1 hz
      cases b5 with
      | false =>
        go_wp2
        go_ret
        exact ⟨rfl, KK.out⟩
      | true =>
        have hpt : Hid (postB id5 L5 = true ∧ textB id5 L5 = T) := by
          rcases HK.out with ⟨_, h1, h2⟩ | ⟨h1, _⟩
          · exact ⟨h1, by rw [textB, if_pos h1]; apply bytes_ext; rw [ByteArray.toList_eq, ByteArray.toList_eq]; exact h2.symm⟩
          · cases h1
        go_wp2_with fail
        refine (implText id5 _ _ _ L5 _ E8.out ((HW.out.at KK.out).t _ (Below.refl _ _))).mono ?_
        rw [hpt.out.2]
        rintro e u5 ⟨rfl, g5⟩
        have p0 := cell_later g5 q0
        have p1 := cell_later g5 q1
        have hp := Nat.lt_of_lt_of_le hq g5.size
        have KL : Hid (Below w.heap.size w u5) := KK.out.trans (g5.mono KK.out.size)
        have E9 : Hid (LegsAt u5 a5 n5 c5 L5) := E8.out.keep g5
        clear q0 q1 hq g5 KK E8
        go_wp2_with fail
        refine (implPostOk id5 _ _ _ L5 _ E9.out).mono ?_
        rw [hpt.out.1]
        rintro e u6 ⟨rfl, g6⟩
        have KM : Hid (Below w.heap.size w u6) := KL.out.trans (g6.mono KL.out.size)
        clear g6 KL E9
        go_wp2
        go_ret
        exact ⟨rfl, KM.out⟩

end Go.Proofs.YtcabinakcmpkeaaDoor
