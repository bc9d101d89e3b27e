/-
  What DrawPostOk and DrawPostText draw, by walks of their Go text: some posting.
-/
import Derived.Test.YtcabinakcmpkeaaDoorBent
import Derived.Test.YtcabinakcmpkeaaDoorDrawPost
import Derived.Test.YtcabinakcmpkeaaDoorBytes
namespace Go.Proofs.YtcabinakcmpkeaaDoor
open Go.RowKit

/-- What comes of the draw. -/
def POkR (w : World) (e : Ending) (w' : World) : Prop :=
  ∃ (id : Int) (b n c : Nat) (L : List LegD), e = .returned (.agg #[.int .i64 id, .slice (some ⟨b, 0, none⟩) n c]) ∧ DrawnAt w' w.heap.size b n c L ∧ n ≤ 10 ∧ Below w.heap.size w w'

set_option maxRecDepth 100000 in
set_option maxHeartbeats 1000000 in
theorem drawPOk_any (a : Option Addr) (len cap : Nat) (w : World) (hb : BytesAt w a len cap) :
    Calls Tryd.prog 61 #[.slice a len cap] w (POkR w) := by
  have k0 : Below w.heap.size w (w.alloc (.cells #[.int .i64 0, .slice none 0 0] 29)) := (Below.refl _ _).alloc (Nat.le_refl _) _
  obtain ⟨hb1, hb2, hb3⟩ := hb.keep k0
  have A0 := BoxH.new w (.int .i64 0) (.slice none 0 0)
  clear hb
  go_enter Tryd.func61, Tryd.ntmps61
  go_wp2_with fail
  refine (l9Open_any a len cap _ hb1 hb2 hb3).mono ?_
  rintro e w1 ⟨len', rfl, r1, k1, s1⟩
  simp only [World.size_alloc] at r1 s1 ⊢
  obtain ⟨R, hR⟩ : ∃ R, R = w.heap.size + 1 := ⟨_, rfl⟩
  rw [← hR] at r1 s1 ⊢
  have low : Low a len' R := by
    rcases r1.bytes with e | ⟨b, off, ha, h1, h2, _⟩
    · exact Or.inl e
    · exact Or.inr (fun b' off' e => by rw [ha] at e; cases e; omega)
  have A1 := A0.below k1
  have G1 : w.grownBy w1 (some R) := grown_below (k0.trans (k1.mono (by simp)))
  have hwR : w.heap.size < R := by omega
  have hA12 : some w.heap.size ≠ some R := fun e => by cases e; omega
  clear k0 k1 A0 hb1 hb2 hb3 hR s1
  go_wp2_with fail
  refine (l1Post_any R 0 a len' cap _ r1 low (by omega)).mono ?_
  rintro e w2 ⟨id2, b2, n2, c2, P2, L2, rfl, D2, hn2, r2, hP2, g2⟩
  have A2 := A1.grown g2 hA12
  have G2 := grown_trans G1 g2
  have L2' := D2.legsAt
  have hF2 := D2.accts
  clear r1 G1 g2 D2 A1
  go_wp2_with fail
  refine (l1Bent_any R P2 a len' cap id2 b2 0 n2 c2 L2 _ r2 low (by omega) L2' hF2 hn2).mono ?_
  rintro e w4 ⟨id4, b4, n4, c4, P4, L4, rfl, D4, hn4, r4, hP4, g4⟩
  have A4 := A2.grown g4 hA12
  have G4 := grown_trans G2 g4
  have a0 := A4.box.c0
  have a1 := A4.box.c1
  have af0 := A4.box.f0
  have af1 := A4.box.f1
  have hAlt := A4.lt
  have hAg := A4.ne_row D4
  have L9 := ((D4.setCell (p := ⟨w.heap.size, 0, none⟩) hAg (.int .i64 id4)).setCell (p := ⟨w.heap.size, 1, none⟩) hAg (.slice (some ⟨b4, 0, none⟩) n4 c4)).mono G2.size
  have G9 := grown_store (grown_store G4 (p := ⟨w.heap.size, 0, none⟩) (Nat.le_refl _) (.int .i64 id4)) (p := ⟨w.heap.size, 1, none⟩) (Nat.le_refl _) (.slice (some ⟨b4, 0, none⟩) n4 c4)
  have K9 := (Below.refl w.heap.size w).grown G9 (Nat.le_refl _) (fun k e => by cases e; omega)
  have HL9 : Hid (DrawnAt ((w4.setCell ⟨w.heap.size, 0, none⟩ (.int .i64 id4)).setCell ⟨w.heap.size, 1, none⟩ (.slice (some ⟨b4, 0, none⟩) n4 c4)) w.heap.size b4 n4 c4 L4) := L9
  have HK9 : Hid (Below w.heap.size w ((w4.setCell ⟨w.heap.size, 0, none⟩ (.int .i64 id4)).setCell ⟨w.heap.size, 1, none⟩ (.slice (some ⟨b4, 0, none⟩) n4 c4))) := K9
  clear r2 G2 g4 L2' hF2 hn2 D4 G4 r4 A2 A4 L9 G9 K9
  go_wp2
  exact bodyPost_ret (v := .agg #[.int .i64 id4, .slice (some ⟨b4, 0, none⟩) n4 c4]) (by simp [results, Tryd.results61, go_sem, a0, a1]) rfl ⟨id4, b4, n4, c4, L4, rfl, HL9.out, hn4, HK9.out⟩

set_option maxRecDepth 100000 in
set_option maxHeartbeats 1000000 in
theorem drawPText_any (a : Option Addr) (len cap : Nat) (w : World) (hb : BytesAt w a len cap) :
    Calls Tryd.prog 28 #[.slice a len cap] w (POkR w) := by
  have k0 : Below w.heap.size w (w.alloc (.cells #[.int .i64 0, .slice none 0 0] 29)) := (Below.refl _ _).alloc (Nat.le_refl _) _
  have hb0 := hb.keep k0
  have A0 := BoxH.new w (.int .i64 0) (.slice none 0 0)
  clear hb
  go_enter Tryd.func28, Tryd.ntmps28
  go_wp2_with fail
  refine (drawPOk_any a len cap _ hb0).mono ?_
  rintro e w4 ⟨id4, b4, n4, c4, L4, rfl, D4, hn4, k4⟩
  have A4 := A0.below k4
  have a0 := A4.box.c0
  have a1 := A4.box.c1
  have af0 := A4.box.f0
  have af1 := A4.box.f1
  have hAlt := A4.lt
  have hAg := A4.ne_row D4
  have L9 := ((D4.setCell (p := ⟨w.heap.size, 0, none⟩) hAg (.int .i64 id4)).setCell (p := ⟨w.heap.size, 1, none⟩) hAg (.slice (some ⟨b4, 0, none⟩) n4 c4)).mono k0.size
  have K9 := ((k0.trans (k4.mono k0.size)).setCell (p := ⟨w.heap.size, 0, none⟩) (Nat.le_refl _) (.int .i64 id4)).setCell (p := ⟨w.heap.size, 1, none⟩) (Nat.le_refl _) (.slice (some ⟨b4, 0, none⟩) n4 c4)
  have HL9 : Hid (DrawnAt ((w4.setCell ⟨w.heap.size, 0, none⟩ (.int .i64 id4)).setCell ⟨w.heap.size, 1, none⟩ (.slice (some ⟨b4, 0, none⟩) n4 c4)) w.heap.size b4 n4 c4 L4) := L9
  have HK9 : Hid (Below w.heap.size w ((w4.setCell ⟨w.heap.size, 0, none⟩ (.int .i64 id4)).setCell ⟨w.heap.size, 1, none⟩ (.slice (some ⟨b4, 0, none⟩) n4 c4))) := K9
  clear D4 k4 A4 A0 L9 K9 k0
  go_wp2
  exact bodyPost_ret (v := .agg #[.int .i64 id4, .slice (some ⟨b4, 0, none⟩) n4 c4]) (by simp [results, Tryd.results28, go_sem, a0, a1]) rfl ⟨id4, b4, n4, c4, L4, rfl, HL9.out, hn4, HK9.out⟩

end Go.Proofs.YtcabinakcmpkeaaDoor
