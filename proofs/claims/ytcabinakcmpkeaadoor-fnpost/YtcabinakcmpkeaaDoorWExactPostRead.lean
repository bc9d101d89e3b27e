/-
  The walk of the law FnExactPostRead: it answers true at every text.
-/
import Derived.Test.YtcabinakcmpkeaaDoorReadS
import Derived.Test.YtcabinakcmpkeaaDoorReadI
import Derived.Test.YtcabinakcmpkeaaDoorLegMk
import Derived.Test.YtcabinakcmpkeaaDoorLawSame
namespace Go.Proofs.YtcabinakcmpkeaaDoor
open Go.RowKit Go.Shelf

/-- What a text is the text of. -/
def Known (t : ByteArray) (id : Int) (L : List LegD) (b : Bool) : Prop :=
  (b = true ∧ postB id L = true ∧ t.data.toList = postT id L) ∨ (b = false ∧ id = 0 ∧ L = [] ∧ ∀ id' L', postB id' L' = true → t.data.toList ≠ postT id' L')
theorem ReadR.known {B : Nat} {t : ByteArray} {e : Ending} {w : World} (h : ReadR B t e w) : ∃ id L b, Known t id L b := by
  rcases h with ⟨id, L, vL, _, h1, h2, _⟩ | ⟨_, h1⟩
  · exact ⟨id, L, true, Or.inl ⟨rfl, h1, h2⟩⟩
  · exact ⟨0, [], false, Or.inr ⟨rfl, rfl, rfl, h1⟩⟩
/-- A row of legs, nil if there are none. -/
def LegsN (B : Nat) (w : World) (v : Value) (L : List LegD) : Prop := w.ownsRow B 58 3 v L.length (flat L) ∧ ((L = [] ∧ v = .slice none 0 0) ∨ 1 ≤ L.length)
theorem ReadR.as {B : Nat} {t : ByteArray} {e : Ending} {w : World} {id : Int} {L : List LegD} {b : Bool} (h : ReadR B t e w) (k : Known t id L b) : ∃ v, e = .returned (.tuple #[.agg #[.int .i64 id, v], .bool b]) ∧ LegsN B w v L := by
  rcases h with ⟨id1, L1, v1, rfl, h1, h2, h3⟩ | ⟨rfl, h1⟩
  · rcases k with ⟨rfl, k1, k2⟩ | ⟨_, _, _, k1⟩
    · obtain ⟨rfl, rfl⟩ := text_inj h1 k1 (h2.symm.trans k2)
      exact ⟨v1, rfl, h3, Or.inr (postB_all h1).2.2.1⟩
    · exact absurd h2 (k1 _ _ h1)
  · rcases k with ⟨rfl, k1, k2⟩ | ⟨rfl, rfl, rfl, _⟩
    · exact absurd k2 (h1 _ _ k1)
    · exact ⟨_, rfl, World.ownsRow_nil _ _ _ _, Or.inl ⟨rfl, rfl⟩⟩
theorem Known.legs {t : ByteArray} {id : Int} {L : List LegD} {b : Bool} (k : Known t id L b) : L.length ≤ 4 ∧ ∀ l ∈ L, LegW l := by
  rcases k with ⟨_, k1, _⟩ | ⟨_, _, rfl, _⟩
  · obtain ⟨_, _, _, h4, h5⟩ := postB_all k1
    refine ⟨h4, fun l hl => ?_⟩
    obtain ⟨p0, p1, p2, p3, p4, p5⟩ := legB_parts (h5 l hl)
    exact ⟨by unfold maxLen; omega, wf_num (by omega) (by omega), wf_num (by omega) (by omega)⟩
  · exact ⟨by simp, fun l hl => by simp at hl⟩

set_option maxHeartbeats 800000 in
set_option maxRecDepth 100000 in
theorem eqLegs_nil (w : World) : Calls Tryd.prog 40 #[.slice none 0 0, .slice none 0 0] w fun e w' => e = .returned (.bool true) ∧ Below w.heap.size w w' := by
  go_enter Tryd.func40, Tryd.ntmps40
  go_wp2
  go_loopw [5] (fun i wr => i = .int .i64 0 ∧ Below w.heap.size w wr) (fun _ _ => 0)
  case atStart => exact ⟨rfl, Below.refl _ _⟩
  case round =>
    obtain ⟨rfl, hb⟩ := hrel
    go_wp2
    go_ret
    exact ⟨rfl, hb⟩

/-- A posting's legs as they are answered: nil, or a row. -/
def PLeg (w : World) (v : Value) (L : List LegD) : Prop := (L = [] ∧ v = .slice none 0 0) ∨ ∃ b cap, v = .slice (some ⟨b, 0, none⟩) L.length cap ∧ 1 ≤ L.length ∧ LegsAt w (some ⟨b, 0, none⟩) L.length cap L
theorem PLeg.keep {w w' : World} {v : Value} {L : List LegD} (h : PLeg w v L) (hb : Below w.heap.size w w') : PLeg w' v L := by
  rcases h with h | ⟨b, cap, h1, h2, h3⟩
  · exact Or.inl h
  · exact Or.inr ⟨b, cap, h1, h2, h3.keep hb⟩
theorem LegsN.legs {B : Nat} {w : World} {v : Value} {L : List LegD} (h : LegsN B w v L) (hw : ∀ l ∈ L, LegW l) : PLeg w v L := by
  rcases h with ⟨h1, h2 | h2⟩
  · exact Or.inl h2
  · rcases own_cases h1 with ⟨rfl, h3⟩ | ⟨g, cap, rfl⟩
    · omega
    · exact Or.inr ⟨g, cap, rfl, h2, legs_of_own h1 rfl hw⟩

set_option maxHeartbeats 800000 in
set_option maxRecDepth 100000 in
theorem eqPost_read (id : Int) (v1 v2 : Value) (L : List LegD) (w : World) (h1 : PLeg w v1 L) (h2 : PLeg w v2 L) : Calls Tryd.prog 13 #[.agg #[.int .i64 id, v1], .agg #[.int .i64 id, v2]] w fun e w' => e = .returned (.bool true) ∧ Below w.heap.size w w' := by
  rcases h1 with ⟨rfl, rfl⟩ | ⟨b1, c1, rfl, h1, k1⟩
  · rcases h2 with ⟨_, rfl⟩ | ⟨b2, c2, rfl, h2, k2⟩
    · have hB : Below w.heap.size w ((w.alloc (.cells #[.int .i64 id, .slice none 0 0] 29)).alloc (.cells #[.int .i64 id, .slice none 0 0] 29)) := ((Below.refl _ _).alloc (Nat.le_refl _) _).alloc (by simp) _
      go_enter Tryd.func13, Tryd.ntmps13
      go_wp2_with (go_at_call 40; refine (eqLegs_nil _).mono ?_; rintro e w1 ⟨rfl, hb1⟩)
      go_ret
      exact ⟨rfl, hB.trans (hb1.mono (by simp; omega))⟩
    · simp at h2
  · rcases h2 with ⟨rfl, _⟩ | ⟨b2, c2, rfl, h2, k2⟩
    · simp at h1
    · exact eqPost_same id b1 0 b2 0 _ c1 c2 L w k1 k2

/-- What reading needs of the world, at it and later. -/
structure RdW (B : Nat) (w : World) : Prop where
  e : ErrB B w
  p : EndsB B w
  t : Lib.TabBelow Tryd.prog B w "internal/strconv.uint64pow10" .u64 Lib.pow10Tab
theorem RdW.at {w w' : World} (h : RdW w.heap.size w) (hb : Below w.heap.size w w') : RdW w'.heap.size w' :=
  ⟨fun x hx => h.e x (hb.trans (hx.mono hb.size)), fun x hx => h.p x (hb.trans (hx.mono hb.size)), fun x hx => h.t x (hb.trans (hx.mono hb.size))⟩

set_option maxRecDepth 100000 in
set_option maxHeartbeats 4000000 in
theorem walkFnExactPostRead (t : ByteArray) (w : World) (hs : t.size ≤ maxLen) (hW : RdW w.heap.size w) :
    Calls Tryd.prog 4 #[.string t] w fun e w' => e = .returned (.bool true) ∧ Below w.heap.size w w' := by
  have HW : Hid (RdW w.heap.size w) := hW
  clear hW
  unfold maxLen at hs
  by_cases hbig : (1048576 : Int) < (t.size : Int)
  · go_enter Tryd.func4, Tryd.ntmps4
    go_wp2
    go_ret
    exact ⟨rfl, Below.refl _ _⟩
  · have ht : t.size ≤ 1048576 := by omega
    go_enter Tryd.func4, Tryd.ntmps4
    go_wp2_with fail
    refine (specRead t _ ht).mono ?_
    rintro e w1 ⟨hR1, hb1⟩
    obtain ⟨id, L, b, hk⟩ := hR1.known
    obtain ⟨v1, rfl, hN1⟩ := hR1.as hk
    have hP1 := hN1.legs hk.legs.2
    have hL4 := hk.legs.1
    have HK : Hid (Known t id L b) := hk
    have HP1 : Hid (PLeg w1 v1 L) := hP1
    obtain ⟨a1, c1, rfl⟩ := own_form hN1.1
    obtain ⟨n, hn⟩ : ∃ n, n = L.length := ⟨_, rfl⟩
    have HN : Hid (n = L.length) := hn
    rw [← hn] at HP1 hL4 ⊢
    clear hP1 hN1 hR1 hk hn
    go_wp2_with fail
    obtain ⟨W1, hW1⟩ : ∃ W, W = w1.alloc (.cells #[.int .i64 id, .slice a1 n c1] 29) := ⟨_, rfl⟩
    have hz1 : w1.heap.size < W1.heap.size := by rw [hW1]; simp
    have r0 : W1.cell? ⟨w1.heap.size, 0, none⟩ = some (.int .i64 id) := by rw [hW1]; simp
    have r1 : W1.cell? ⟨w1.heap.size, 1, none⟩ = some (.slice a1 n c1) := by rw [hW1]; simp
    have kA : Below w1.heap.size w1 W1 := by rw [hW1]; exact (Below.refl _ _).alloc (Nat.le_refl _) _
    have KA : Hid (Below w.heap.size w W1) := hb1.trans (kA.mono hb1.size)
    have P1 : Hid (PLeg W1 (.slice a1 n c1) L) := HP1.out.keep kA
    rw [← hW1]
    obtain ⟨X, hX⟩ : ∃ X, X = w1.heap.size := ⟨_, rfl⟩
    rw [← hX] at r0 r1 hz1 ⊢
    clear hW1 hX kA HP1 hb1
    have RW := HW.out.at KA.out
    refine (implRead t _ ht RW.e RW.p RW.t).mono ?_
    rintro e w2 ⟨hR2, hb2⟩
    obtain ⟨v2, rfl, hN2⟩ := hR2.as HK.out
    obtain ⟨a2, c2, rfl⟩ := own_form hN2.1
    have s0 := cell_later hb2 r0
    have s1 := cell_later hb2 r1
    have hz2 := Nat.lt_of_lt_of_le hz1 hb2.size
    have HB2 : Hid (Below W1.heap.size W1 w2) := hb2
    have HN2 : Hid (LegsN W1.heap.size w2 (.slice a2 L.length c2) L) := hN2
    rw [← HN.out] at HN2 ⊢
    clear r0 r1 hR2 hN2 hb2 RW
    go_wp2_with fail
    obtain ⟨W2, hW2⟩ : ∃ W, W = w2.alloc (.cells #[.int .i64 id, .slice a2 n c2] 29) := ⟨_, rfl⟩
    have kA : Below w2.heap.size w2 W2 := by rw [hW2]; exact (Below.refl _ _).alloc (Nat.le_refl _) _
    have s0' := cell_later kA s0
    have s1' := cell_later kA s1
    have r0 : W2.cell? ⟨w2.heap.size, 0, none⟩ = some (.int .i64 id) := by rw [hW2]; simp
    have r1 : W2.cell? ⟨w2.heap.size, 1, none⟩ = some (.slice a2 n c2) := by rw [hW2]; simp
    have hz3 : w2.heap.size < W2.heap.size := by rw [hW2]; simp
    have hlow := HB2.out.size
    have hz2' : X < W2.heap.size := Nat.lt_trans hz2 hz3
    have KB : Hid (Below W1.heap.size W1 W2) := HB2.out.trans (kA.mono HB2.out.size)
    have N2 : Hid (W2.ownsRow W1.heap.size 58 3 (.slice a2 n c2) n (flat L)) := by
      have h := HN2.out.1
      rw [← HN.out] at h
      exact ownsRow_kb h kA
    have NE : Hid (∀ g, (Value.slice a2 n c2).ownBlock = some g → g < w2.heap.size) := fun g e => by
      have h := HN2.out.1
      rcases own_cases h with ⟨h1, _⟩ | ⟨g', cap, h1⟩
      · rw [h1] at e
        simp [Value.ownBlock] at e
      · rw [h1] at e h
        simp [Value.ownBlock] at e
        subst e
        exact (h.lt g' rfl).2
    have Q2 : Hid (PLeg W2 (.slice a2 n c2) L) := (HN2.out.legs HK.out.legs.2).keep kA
    rw [← hW2]
    obtain ⟨Y, hY⟩ : ∃ Y, Y = w2.heap.size := ⟨_, rfl⟩
    rw [← hY] at r0 r1 hz3 NE hlow ⊢
    clear hW2 hY kA HN2 s0 s1 HB2 hz2
    refine (eqPost_read id _ _ L _ Q2.out (P1.out.keep KB.out)).mono ?_
    rintro e w3 ⟨rfl, hb3⟩
    have s0 := cell_later hb3 s0'
    have s1 := cell_later hb3 s1'
    have q0 := cell_later hb3 r0
    have q1 := cell_later hb3 r1
    have hz4 := Nat.lt_of_lt_of_le hz3 hb3.size
    have hz5 := Nat.lt_of_lt_of_le hz2' hb3.size
    have KC : Hid (Below W1.heap.size W1 w3) := KB.out.trans (hb3.mono KB.out.size)
    have N3 : Hid (w3.ownsRow W1.heap.size 58 3 (.slice a2 n c2) n (flat L)) := ownsRow_kb N2.out hb3
    clear s0' s1' r0 r1 hz3 hz2' hb3 KB N2 Q2
    go_wp2_with fail
    refine (markPost_own W1.heap.size id 1 n L _ w3 N3.out KC.out.size (Nat.le_refl _) (by omega)).mono ?_
    rintro e w4 ⟨rfl, hN4, hb4, hg4⟩
    have t0 : w4.cell? ⟨X, 0, none⟩ = some (.int .i64 id) := (World.cell?_of_block (hb4.block X hz1)).trans s0
    have t1 : w4.cell? ⟨X, 1, none⟩ = some (.slice a1 n c1) := (World.cell?_of_block (hb4.block X hz1)).trans s1
    have hYn : some Y ≠ (Value.slice a2 n c2).ownBlock := fun e => absurd (NE.out Y e.symm) (Nat.lt_irrefl _)
    have p0 : w4.cell? ⟨Y, 0, none⟩ = some (.int .i64 id) := (World.cell?_of_block (hg4.block Y hz4 hYn)).trans q0
    have p1 : w4.cell? ⟨Y, 1, none⟩ = some (.slice a2 n c2) := (World.cell?_of_block (hg4.block Y hz4 hYn)).trans q1
    have hx4 := Nat.lt_of_lt_of_le hz5 hb4.size
    have hy4 := Nat.lt_of_lt_of_le hz4 hb4.size
    have N4 : Hid (w4.ownsRow W1.heap.size 58 3 (.slice a2 n c2) n (flat (markLs 1 n))) := hN4
    have KD : Hid (Below W1.heap.size W1 w4) := KC.out.trans hb4
    clear hN4 hb4 hg4 s0 s1 q0 q1 hz4 hz5 hYn N3 KC
    obtain ⟨M, hM⟩ : ∃ M : Int, M = ((1 + 3 * n : Nat) : Int) := ⟨_, rfl⟩
    have hM0 : ¬ M < 0 := by omega
    have CM : Hid (∀ w', w'.ownsRow W1.heap.size 58 3 (.slice a2 n c2) n (flat (markLs 1 n)) → Calls Tryd.prog 17 #[.agg #[.int .i64 id, .slice a2 n c2], .int .i64 1] w' fun e w'' => e = .returned (.int .i64 M) ∧ Below w'.heap.size w' w'') := fun w' h => by rw [hM]; exact heldPost_own W1.heap.size id 1 n _ w' h (Nat.le_refl _) (by omega)
    rw [← hM]
    clear hM
    go_wp2_with fail
    refine (CM.out _ N4.out).mono ?_
    rintro e w5 ⟨rfl, hb5⟩
    have s0 := cell_later hb5 t0
    have s1 := cell_later hb5 t1
    have q0 := cell_later hb5 p0
    have q1 := cell_later hb5 p1
    have hx5 := Nat.lt_of_lt_of_le hx4 hb5.size
    have hy5 := Nat.lt_of_lt_of_le hy4 hb5.size
    have KE : Hid (Below W1.heap.size W1 w5) := KD.out.trans (hb5.mono KD.out.size)
    have N5 : Hid (w5.ownsRow W1.heap.size 58 3 (.slice a2 n c2) n (flat (markLs 1 n))) := ownsRow_kb N4.out hb5
    clear t0 t1 p0 p1 hx4 hy4 hb5 N4 KD
    go_wp2_with fail
    have RW := HW.out.at (KA.out.trans (KE.out.mono KA.out.size))
    refine (implRead t _ ht RW.e RW.p RW.t).mono ?_
    rintro e w6 ⟨hR6, hb6⟩
    obtain ⟨v3, rfl, hN6⟩ := hR6.as HK.out
    obtain ⟨a3, c3, rfl⟩ := own_form hN6.1
    have t0 := cell_later hb6 s0
    have t1 := cell_later hb6 s1
    have p0 := cell_later hb6 q0
    have p1 := cell_later hb6 q1
    have hx6 := Nat.lt_of_lt_of_le hx5 hb6.size
    have hy6 := Nat.lt_of_lt_of_le hy5 hb6.size
    have Q6 : Hid (PLeg w6 (.slice a3 L.length c3) L) := hN6.legs HK.out.legs.2
    have KF : Hid (Below W1.heap.size W1 w6) := KE.out.trans (hb6.mono KE.out.size)
    have N6 : Hid (w6.ownsRow W1.heap.size 58 3 (.slice a2 n c2) n (flat (markLs 1 n))) := ownsRow_kb N5.out hb6
    rw [← HN.out] at Q6 ⊢
    clear s0 s1 q0 q1 hR6 hN6 hb6 RW hx5 hy5 KE N5
    go_wp2_with fail
    obtain ⟨W6, hW6⟩ : ∃ W, W = w6.alloc (.cells #[.int .i64 id, .slice a3 n c3] 29) := ⟨_, rfl⟩
    have kA : Below w6.heap.size w6 W6 := by rw [hW6]; exact (Below.refl _ _).alloc (Nat.le_refl _) _
    have s0 := cell_later kA t0
    have s1 := cell_later kA t1
    have q0 := cell_later kA p0
    have q1 := cell_later kA p1
    have hx7 := Nat.lt_of_lt_of_le hx6 kA.size
    have hy7 := Nat.lt_of_lt_of_le hy6 kA.size
    have Q7 : Hid (PLeg W6 (.slice a3 n c3) L) := Q6.out.keep kA
    have KG : Hid (Below W1.heap.size W1 W6) := KF.out.trans (kA.mono KF.out.size)
    have N7 : Hid (W6.ownsRow W1.heap.size 58 3 (.slice a2 n c2) n (flat (markLs 1 n))) := ownsRow_kb N6.out kA
    rw [← hW6]
    clear hW6 kA t0 t1 p0 p1 hx6 hy6 KF N6 Q6
    refine (eqPost_read id _ _ L _ Q7.out (P1.out.keep KG.out)).mono ?_
    rintro e w7 ⟨rfl, hb7⟩
    have p0 := cell_later hb7 q0
    have p1 := cell_later hb7 q1
    have hy8 := Nat.lt_of_lt_of_le hy7 hb7.size
    have KH : Hid (Below W1.heap.size W1 w7) := KG.out.trans (hb7.mono KG.out.size)
    have N8 : Hid (w7.ownsRow W1.heap.size 58 3 (.slice a2 n c2) n (flat (markLs 1 n))) := ownsRow_kb N7.out hb7
    clear s0 s1 q0 q1 hx7 hy7 hb7 KG N7 Q7
    go_wp2_with fail
    refine (CM.out _ N8.out).mono ?_
    rintro e w8 ⟨rfl, hb8⟩
    have KI := KA.out.trans ((KH.out.trans (hb8.mono KH.out.size)).mono KA.out.size)
    clear hb8
    go_wp2
    go_ret
    exact ⟨rfl, KI⟩

end Go.Proofs.YtcabinakcmpkeaaDoor
