/-
  What DrawPostRead draws, by a walk of its Go text: some text of few bytes.
-/
import Derived.Test.YtcabinakcmpkeaaDoorDrawPostB
import Derived.Test.YtcabinakcmpkeaaDoorTextS
import Derived.Test.YtcabinakcmpkeaaDoorBytes
import Derived.Deep.RegionWith
namespace Go.Proofs.YtcabinakcmpkeaaDoor
open Go.RowKit

theorem textB_size {id : Int} {L : List LegD} (h : postB id L = true) : 1 ≤ (textB id L).size ∧ (textB id L).size ≤ 300 := by
  obtain ⟨h1, h2, h3, h4, h5⟩ := postB_all h
  have e1 := Lib.itoa_length_le id (by omega) (by omega)
  have e2 := legsT_len L h5
  rw [textB, if_pos h]
  show 1 ≤ (postT id L).toArray.size ∧ (postT id L).toArray.size ≤ 300
  simp only [List.size_toArray, postT, List.length_append]
  refine ⟨?_, by omega⟩
  match L, h3 with
  | l :: r, _ => simp [legsT, legT]; omega

theorem kq_le {k q T : Nat} (hk : k < T) (hq : q ≤ 1) : (k : Int) + (q : Int) ≤ (T : Int) := by omega
theorem kz_le {k T z : Nat} (hk : k < T) (hz : z ≤ 1) (hT : T ≤ 300) : ¬ 9223372036854775807 < min k T + z := by omega
theorem kq_wr {k q T : Nat} (hk : k < T) (hq : q ≤ 1) (hT : T ≤ 300) : IntKind.i64.wrap ((k : Int) + (q : Int)) = (k : Int) + (q : Int) := by rw [IntWalk.i64_left]; unfold wrap64; omega
theorem kzT {k T z : Nat} (hk : k < T) (hz : z ≤ 1) (hT : T ≤ 300) (m : Nat) : ¬ 9223372036854775807 < min k T + z + (T - m) := by omega
theorem kq_0 (k q : Nat) : 0 ≤ (k : Int) + (q : Int) := by omega
/-- A text of one byte, or none. -/
def One (s : ByteArray) : Prop := s.size ≤ 1

set_option maxRecDepth 100000 in
set_option maxHeartbeats 2000000 in
theorem drawPRead_any (a : Option Addr) (len cap : Nat) (w : World) (hb : BytesAt w a len cap) :
    Calls Tryd.prog 32 #[.slice a len cap] w fun e w' => ∃ t : ByteArray, e = .returned (.string t) ∧ t.size ≤ 1000 ∧ Below w.heap.size w w' := by
  obtain ⟨hb1, hb2, hb3⟩ := hb
  go_enter Tryd.func32, Tryd.ntmps32
  go_wp2_with fail
  refine (l9Open_any a len cap _ hb1 hb2 hb3).mono ?_
  rintro e w1 ⟨len', rfl, r1, k1, s1⟩
  obtain ⟨R, hR⟩ : ∃ R, R = w.heap.size := ⟨_, rfl⟩
  rw [← hR] at r1 ⊢
  have low : Low a len' R := by
    rcases r1.bytes with e | ⟨b, off, ha, h1, h2, _⟩
    · exact Or.inl e
    · exact Or.inr (fun b' off' e => by rw [ha] at e; cases e; omega)
  have G1 : w.grownBy w1 (some R) := grown_below k1
  have HR : Hid (R = w.heap.size) := hR
  clear k1 hb1 hb2 hb3 hR s1
  go_wp2_with fail
  refine (l1Post_ok R 0 a len' cap _ r1 low (by omega)).mono ?_
  rintro e w2 ⟨id2, b2, n2, c2, P2, L2, rfl, D2, hn2, r2, hP2, g2, hpo⟩
  have G2 := grown_trans G1 g2
  have L2' := D2.legsAt
  obtain ⟨hz1, hz2⟩ := textB_size hpo
  clear r1 G1 g2 D2 hpo
  go_wp2_with fail
  refine (specText id2 _ _ _ L2 _ L2').mono ?_
  rintro e w3 ⟨rfl, k3⟩
  obtain ⟨T, hT⟩ : ∃ T, T = textB id2 L2 := ⟨_, rfl⟩
  rw [← hT] at hz1 hz2 ⊢
  have r3 := r2.below k3
  have G3 := grown_trans G2 (grown_below k3)
  clear hT k3 r2 G2 L2'
  go_wp2_with fail
  refine (pick_any R P2 a len' cap _ _ r3 (by omega) (by omega)).mono ?_
  rintro e w4 ⟨q4, rfl, hq4, r4, g4⟩
  have G4 := grown_trans G3 g4
  clear r3 G3 g4
  by_cases hc : q4 = 0
  · subst hc
    go_wp2
    go_ret
    exact ⟨T, rfl, by omega, (Below.refl w.heap.size w).grown G4 (Nat.le_refl _) (fun k e => by cases e; rw [HR.out]; exact Nat.le_refl _)⟩
  · have hf : (q4 == 0) = false := by simpa using hc
    go_wp2_with fail
    refine (pick_any R (P2 + 1) a len' cap _ _ r4 (by omega) (by omega)).mono ?_
    rintro e w5 ⟨q5, rfl, hq5, r5, g5⟩
    obtain ⟨k, rfl⟩ := Int.eq_ofNat_of_zero_le hq5.1
    have hk : k < T.size := by have := hq5.2 (by omega); omega
    have G5 := grown_trans G4 g5
    clear r4 G4 g5 hq5
    have kd : Below w5.heap.size w5 (w5.drew.alloc (.cells (([⟨#[]⟩, ⟨#[48]⟩, ⟨#[32]⟩, ⟨#[58]⟩, ⟨#[45]⟩, ⟨#[49]⟩, ⟨#[97]⟩] : List ByteArray).map Value.string).toArray 9)) := ((Below.refl _ _).drew).alloc (Nat.le_refl _) _
    have rd := r5.below kd
    have Gd := grown_trans G5 (grown_below kd)
    have hR5 := r5.lt
    have CO : Hid (Calls Tryd.prog 68 #[.pointer (some ⟨R, 0, none⟩), .slice (some ⟨w5.heap.size, 0, none⟩) 7 7] (w5.drew.alloc (.cells (([⟨#[]⟩, ⟨#[48]⟩, ⟨#[32]⟩, ⟨#[58]⟩, ⟨#[45]⟩, ⟨#[49]⟩, ⟨#[97]⟩] : List ByteArray).map Value.string).toArray 9)) fun e w' => ∃ z : ByteArray, e = .returned (.string z) ∧ One z ∧ RdAt w' R a len' cap (P2 + 1 + 1 + 1) ∧ w.grownBy w' (some R)) := by
      refine (of_any One R (P2 + 1 + 1) a len' cap w5.heap.size 0 7 7 _ rd (by omega) (by omega) (by omega) (by omega) (by show w5.heap.size < (w5.heap.push _).size; rw [Array.size_push]; exact Nat.lt_succ_self _) (strs_new w5.drew 9 [⟨#[]⟩, ⟨#[48]⟩, ⟨#[32]⟩, ⟨#[58]⟩, ⟨#[45]⟩, ⟨#[49]⟩, ⟨#[97]⟩] One ?_)).mono ?_
      · intro s hs
        simp only [List.mem_cons, List.not_mem_nil, or_false] at hs
        rcases hs with rfl | rfl | rfl | rfl | rfl | rfl | rfl <;> (unfold One; decide)
      · rintro e w' ⟨z, rfl, hz, hr, hg⟩
        exact ⟨z, rfl, hz, hr, grown_trans Gd hg⟩
    have CP : Hid (∀ w6, RdAt w6 R a len' cap (P2 + 1 + 1 + 1) ∧ w.grownBy w6 (some R) → Calls Tryd.prog 67 #[.pointer (some ⟨R, 0, none⟩), .int .i64 2] w6 fun e w' => ∃ q : Nat, e = .returned (.int .i64 (q : Int)) ∧ q ≤ 1 ∧ w.grownBy w' (some R)) := by
      intro w6 h6
      refine (pick_any R (P2 + 1 + 1 + 1) a len' cap 2 _ h6.1 (by omega) (by omega)).mono ?_
      rintro e w' ⟨q, rfl, hq, _, hg⟩
      obtain ⟨j, rfl⟩ := Int.eq_ofNat_of_zero_le hq.1
      exact ⟨j, rfl, by have := hq.2 (by omega); omega, grown_trans h6.2 hg⟩
    clear rd Gd kd r5 G5
    have hkI : (k : Int) ≤ (T.size : Int) := by omega
    go_wp2_with fail
    go_region_law (first
      | (go_simp; go_at_call 68; refine CO.out.mono ?_; rintro e w6 ⟨z, rfl, hz, hX⟩; have HX : Hid (RdAt w6 R a len' cap (P2 + 1 + 1 + 1) ∧ w.grownBy w6 (some R)) := hX; clear hX; unfold One at hz; have hm1 : ¬ 9223372036854775807 < min k T.size + z.size := kz_le hk hz hz2)
      | (go_simp; go_at_call 67; refine (CP.out _ HX.out).mono ?_; rintro e w7 ⟨q, rfl, hq1, hG⟩; have HG : Hid (w.grownBy w7 (some R)) := hG; clear hG; have hkq : (k : Int) + (q : Int) ≤ (T.size : Int) := kq_le hk hq1; have hkq0 : 0 ≤ (k : Int) + (q : Int) := kq_0 k q; have hwr : IntKind.i64.wrap ((k : Int) + (q : Int)) = (k : Int) + (q : Int) := kq_wr hk hq1 hz2; have hm2 : ¬ 9223372036854775807 < min k T.size + z.size + (T.size - ((k : Int) + (q : Int)).toNat) := kzT hk hz hz2 _))
    all_goals
      have hfin : (T.extract 0 k ++ z ++ T.extract ((k : Int) + (q : Int)).toNat T.size).size ≤ 1000 := by
        simp only [ByteArray.size_append, ByteArray.size_extract]
        omega
      go_wp2
      go_ret
      exact ⟨_, rfl, hfin, (Below.refl w.heap.size w).grown HG.out (Nat.le_refl _) (fun k e => by cases e; rw [HR.out]; exact Nat.le_refl _)⟩

end Go.Proofs.YtcabinakcmpkeaaDoor
