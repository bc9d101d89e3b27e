/-
  The walk of the law FnExactFrameRead.
-/
import Derived.Test.YtfblpbihpmhgjaaDoorFr47
namespace Go.Proofs.YtfblpbihpmhgjaaDoor
open Go.RowKit Go.Shelf

theorem whole_few {l : List UInt8} {P : List (List EntD)} {k : Nat} (h : Whole l P k) : P.flatten.length ≤ 12 * P.length := by
  induction h with
  | none _ => simp
  | one hd _ ih =>
    obtain ⟨_, h2, _⟩ := done_parts hd
    simp only [List.flatten_cons, List.length_append, List.length_cons]
    omega
/-- What reading a log needs of the world, at it and later. -/
structure FrW (B : Nat) (w : World) : Prop where
  e : ErrB B w
  t : TabB B w
theorem FrW.at {w w' : World} (h : FrW w.heap.size w) (hb : Below w.heap.size w w') : FrW w'.heap.size w' :=
  ⟨fun x hx => h.e x (hb.trans (hx.mono hb.size)), fun x hx => h.t x (hb.trans (hx.mono hb.size))⟩

set_option maxRecDepth 100000 in
set_option maxHeartbeats 4000000 in
theorem walkFnExactFrameRead (t : ByteArray) (w : World) (hs : t.size ≤ maxLen) (hW : FrW w.heap.size w) :
    Calls Tryd.prog 6 #[.string t] w fun e w' => e = .returned (.bool true) ∧ Below w.heap.size w w' := by
  have HW : Hid (FrW w.heap.size w) := hW
  clear hW
  unfold maxLen at hs
  by_cases hbig : (1048576 : Int) < (t.size : Int)
  · go_enter Tryd.func6, Tryd.ntmps6
    go_wp2
    go_ret
    exact ⟨rfl, Below.refl _ _⟩
  · have ht : t.size ≤ 1048576 := by omega
    go_enter Tryd.func6, Tryd.ntmps6
    go_wp2_with fail
    refine (specRd t _ ht).mono ?_
    rintro e w1 ⟨⟨P, k, g, n, c, rfl, hWh, hPA⟩, hb1⟩
    have HWH : Hid (Whole t.data.toList P k) := hWh
    have HPA : Hid (PartsAt w1 (some ⟨g, 0, none⟩) n c P) := hPA
    have HNP : Hid (P.length = n) := hPA.length
    have HB1 : Hid (Below w.heap.size w w1) := hb1
    clear hWh hPA hb1
    go_wp2_with fail
    have F1 := HW.out.at HB1.out
    refine (implRd t _ ht F1.e F1.t).mono ?_
    rintro e w2 ⟨⟨P2, k2, v2, gs, rfl, hWh2, hZ, hPl⟩, hb2, hz2⟩
    obtain ⟨rfl, rfl⟩ := whole_inj HWH.out hWh2
    obtain ⟨a2, c2, rfl⟩ := hZ.form
    have HFW : Hid (P.flatten.length ≤ 12 * P.length ∧ P.length ≤ 1048576) := ⟨whole_few hWh2, hPl⟩
    rw [HNP.out] at hZ ⊢
    have HZ2 : Hid (PartsZ w2 (w1.heap.size + 1) (.slice a2 n c2) gs P) := hZ
    have HB2 : Hid (Below w1.heap.size w1 w2) := hb2
    have HS2 : Hid (w1.heap.size + 1 ≤ w2.heap.size) := hz2
    have HPA2 : Hid (PartsAt w2 (some ⟨g, 0, none⟩) n c P) := HPA.out.keep hb2
    clear hWh2 hZ hPl hb2 hz2 F1
    go_wp2_with fail
    refine (eqEntSS_any a2 _ n c2 c P _ (HZ2.out.partsAt HNP.out.symm) HPA2.out).mono ?_
    rintro e w3 ⟨rfl, hb3⟩
    have HZ3 : Hid (PartsZ w3 (w1.heap.size + 1) (.slice a2 n c2) gs P) := HZ2.out.below hb3
    have HPA3 : Hid (PartsAt w3 (some ⟨g, 0, none⟩) n c P) := HPA2.out.keep hb3
    have HB3 : Hid (Below w1.heap.size w1 w3) := HB2.out.trans (hb3.mono HB2.out.size)
    have HS3 : Hid (w1.heap.size + 1 ≤ w3.heap.size) := Nat.le_trans HS2.out hb3.size
    clear hb3 HZ2 HPA2 HB2 HS2
    obtain ⟨K, hK⟩ : ∃ K : Nat, K = 1 + 5 * P.flatten.length := ⟨_, rfl⟩
    have HK : Hid (K = 1 + 5 * P.flatten.length) := hK
    clear hK
    have CM : Hid (Calls Tryd.prog 28 #[.slice a2 n c2, .int .i64 1] w3 fun e w' => e = .returned (.int .i64 (K : Int)) ∧ PartsZ w' (w1.heap.size + 1) (.slice a2 n c2) gs (mrkP 1 P) ∧ Below (w1.heap.size + 1) w3 w') := by
      have := markZ_any (w1.heap.size + 1) (.slice a2 n c2) gs P 1 w3 HZ3.out (Nat.le_refl _) (by have := HFW.out; omega) HFW.out.2 HS3.out
      rw [← HK.out] at this
      exact this
    go_wp2_with fail
    refine CM.out.mono ?_
    rintro e w4 ⟨rfl, hZ4, hb4⟩
    have HZ4 : Hid (PartsZ w4 (w1.heap.size + 1) (.slice a2 n c2) gs (mrkP 1 P)) := hZ4
    have HB4 : Hid (Below w1.heap.size w1 w4) := HB3.out.trans (hb4.mono (Nat.le_succ _))
    clear hZ4 hb4 HZ3 HPA3 HB3 HS3 CM
    have CH : Hid (∀ w', PartsZ w' (w1.heap.size + 1) (.slice a2 n c2) gs (mrkP 1 P) → Calls Tryd.prog 29 #[.slice a2 n c2, .int .i64 1] w' fun e w'' => e = .returned (.int .i64 (K : Int)) ∧ Below w'.heap.size w' w'') := fun w' hw' => by
      have := heldZ_any (w1.heap.size + 1) (.slice a2 n c2) gs P 1 w' hw' (Nat.le_refl _) (by have := HFW.out; omega) HFW.out.2
      rw [← HK.out] at this
      exact this
    go_wp2_with fail
    refine (CH.out _ HZ4.out).mono ?_
    rintro e w5 ⟨rfl, hb5⟩
    have HZ5 : Hid (PartsZ w5 (w1.heap.size + 1) (.slice a2 n c2) gs (mrkP 1 P)) := HZ4.out.below hb5
    have HB5 : Hid (Below w1.heap.size w1 w5) := HB4.out.trans (hb5.mono HB4.out.size)
    have hK0 : ¬ (K : Int) < 0 := by omega
    have HBW : Hid (Below w.heap.size w w5) := HB1.out.trans (HB5.out.mono HB1.out.size)
    clear hb5 HZ4 HB4
    go_wp2_with fail
    have F5 := HW.out.at HBW.out
    refine (implRd t _ ht F5.e F5.t).mono ?_
    rintro e w6 ⟨⟨P6, k6, v6, gs6, rfl, hWh6, hZ6, hPl6⟩, hb6, hz6⟩
    obtain ⟨rfl, rfl⟩ := whole_inj HWH.out hWh6
    obtain ⟨a6, c6, rfl⟩ := hZ6.form
    rw [HNP.out] at hZ6 ⊢
    have HZ6 : Hid (PartsZ w6 (w5.heap.size + 1) (.slice a6 n c6) gs6 P) := hZ6
    have HZM : Hid (PartsZ w6 (w1.heap.size + 1) (.slice a2 n c2) gs (mrkP 1 P)) := HZ5.out.below hb6
    have HPA6 : Hid (PartsAt w6 (some ⟨g, 0, none⟩) n c P) := HPA.out.keep (HB5.out.trans (hb6.mono HB5.out.size))
    have HB6 : Hid (Below w.heap.size w w6) := HBW.out.trans (hb6.mono HBW.out.size)
    clear hWh6 hZ6 hPl6 hb6 hz6 HZ5 HB5 HBW F5
    go_wp2_with fail
    refine (eqEntSS_any a6 _ n c6 c P _ (HZ6.out.partsAt HNP.out.symm) HPA6.out).mono ?_
    rintro e w7 ⟨rfl, hb7⟩
    have HZ7 : Hid (PartsZ w7 (w1.heap.size + 1) (.slice a2 n c2) gs (mrkP 1 P)) := HZM.out.below hb7
    have HB7 : Hid (Below w.heap.size w w7) := HB6.out.trans (hb7.mono HB6.out.size)
    clear hb7 HZ6 HZM HPA6 HB6
    go_wp2_with fail
    refine (CH.out _ HZ7.out).mono ?_
    rintro e w8 ⟨rfl, hb8⟩
    have HB8 : Hid (Below w.heap.size w w8) := HB7.out.trans (hb8.mono HB7.out.size)
    clear hb8
    go_wp2
    go_ret
    exact ⟨rfl, HB8.out⟩

end Go.Proofs.YtfblpbihpmhgjaaDoor
