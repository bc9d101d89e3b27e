/-
  The document's entry at a place of a text, by a walk of its Go text.
  The document's body of a batch, by a walk of its Go text.
-/
import Derived.Test.YtapjkbpfhmbfaaaGreatDoorSo10
import Derived.Test.YtapjkbpfhmbfaaaGreatDoorSo05
import Derived.Laws.AppendOwnNone
import Derived.Test.YtapjkbpfhmbfaaaGreatDoorSo02
import Derived.Test.YtapjkbpfhmbfaaaGreatDoorSo03
namespace Go.Proofs.YtapjkbpfhmbfaaaGreatDoor
open Go.RowKit
set_option maxRecDepth 100000
set_option maxHeartbeats 2000000
def WordAtE (t : ByteArray) (k : Nat) (s : ByteArray) (z : Int) : Prop := PlaceE t z ∧ s.size ≤ 1048576 ∧ ∀ (u r : List UInt8), (32 : UInt8) ∉ u → t.data.toList.drop k = u ++ 32 :: r → s.data.toList = u ∧ ∃ j : Nat, z = (j : Int) ∧ t.data.toList.drop j = r
theorem specWordE (t : ByteArray) (k : Nat) (w : World) (hk : k ≤ t.size) (ht : t.size ≤ 1048576) :
    Calls Tryz.prog 236 #[.string t, .int .i64 (k : Int)] w fun e w' => (∃ s z, e = .returned (.tuple #[.string s, .int .i64 z]) ∧ WordAtE t k s z) ∧ Below w.heap.size w w' := by
  refine (specWord t k w hk ht).mono ?_
  rintro e w' ⟨he, hb⟩
  refine ⟨?_, hb⟩
  rcases he with ⟨j, h1, h2, h3, h4, rfl⟩ | ⟨h1, rfl⟩
  · refine ⟨_, _, rfl, Or.inr ⟨j + 1, by omega, by omega⟩, by rw [ByteArray.size_extract]; omega, fun u r hu hm => ?_⟩
    obtain ⟨e1, e2⟩ := split_one (h3.symm.trans hm) h4 hu
    exact ⟨e1, j + 1, by omega, e2⟩
  · refine ⟨_, _, rfl, Or.inl rfl, by decide, fun u r hu hm => ?_⟩
    rw [hm] at h1
    simp at h1
def NumZE (t : ByteArray) (z n z' : Int) : Prop := (-9223372036854775808 ≤ n ∧ n ≤ 9223372036854775807) ∧ PlaceE t z' ∧ ∀ (k : Nat) (m : Int) (r : List UInt8), z = (k : Int) → -10000000 ≤ m → m ≤ 10000000 → t.data.toList.drop k = Lib.itoa m ++ 32 :: r → n = m ∧ ∃ j : Nat, z' = (j : Int) ∧ t.data.toList.drop j = r
theorem specNumE (t : ByteArray) (z : Int) (w : World) (hz : PlaceE t z) (ht : t.size ≤ 1048576) :
    Calls Tryz.prog 187 #[.string t, .int .i64 z] w fun e w' => (∃ n z' : Int, e = .returned (.tuple #[.int .i64 n, .int .i64 z']) ∧ NumZE t z n z') ∧ Below w.heap.size w w' := by
  refine (specNumZ t z w hz ht).mono ?_
  rintro e w' ⟨⟨n, z', h1, h2, h3, h4, h5⟩, hb⟩
  exact ⟨⟨n, z', h1, h2, h3, h5⟩, hb⟩
theorem ent_chain {t s : ByteArray} {k : Nat} {q d n m z1 z2 z3 z4 z5 : Int} (H1 : WordAtE t k s z1) (H2 : NumZE t z1 q z2) (H3 : NumZE t z2 d z3) (H4 : NumZE t z3 n z4) (H5 : NumZE t z4 m z5) {E : EntD} {r : List UInt8} (hE : entOk E = true) (hd : t.data.toList.drop k = entT E ++ r) :
    s = E.1 ∧ q = E.2.1 ∧ d = E.2.2.1 ∧ n = E.2.2.2.2 ∧ m = (E.2.2.2.1.size : Int) ∧ ∃ j : Nat, z5 = (j : Int) ∧ t.data.toList.drop j = E.2.2.2.1.data.toList ++ r := by
  obtain ⟨h1, h2, h3, h4, h5, h6, h7, h8⟩ := ent_parts hE
  have hk := key_sp (ent_key hE)
  obtain ⟨k', q', d', t', n'⟩ := E
  simp only at h1 h2 h3 h4 h5 h6 h7 h8 hk ⊢
  have e0 : entT (k', q', d', t', n') ++ r = k'.data.toList ++ 32 :: (Lib.itoa q' ++ 32 :: (Lib.itoa d' ++ 32 :: (Lib.itoa n' ++ 32 :: (Lib.itoa (t'.size : Int) ++ 32 :: (t'.data.toList ++ r))))) := by simp [entT]
  rw [e0] at hd
  obtain ⟨a1, j1, b1, c1⟩ := H1.2.2 _ _ hk hd
  obtain ⟨a2, j2, b2, c2⟩ := H2.2.2 j1 _ _ b1 (by omega) (by omega) c1
  obtain ⟨a3, j3, b3, c3⟩ := H3.2.2 j2 _ _ b2 (by omega) (by omega) c2
  obtain ⟨a4, j4, b4, c4⟩ := H4.2.2 j3 _ _ b3 (by omega) (by omega) c3
  obtain ⟨a5, j5, b5, c5⟩ := H5.2.2 j4 _ _ b4 (by omega) (by omega) c4
  exact ⟨by have := ByteArray.ext (Array.toList_inj.1 a1); exact this, a2, a3, a4, a5, j5, b5, c5⟩
def EntRE (t : ByteArray) (k : Nat) (e : Ending) : Prop :=
  ∃ (kk tt : ByteArray) (q d n z : Int), e = .returned (.tuple #[.agg #[.string kk, .int .i64 q, .int .i64 d, .string tt, .int .i64 n], .int .i64 z]) ∧ EntW (kk, q, d, tt, n) ∧ PlaceE t z ∧ ∀ (E : EntD) (r : List UInt8), entOk E = true → t.data.toList.drop k = entT E ++ r → (kk, q, d, tt, n) = E ∧ ∃ j : Nat, z = (j : Int) ∧ t.data.toList.drop j = r
theorem wf_i64' {z : Int} (h : -9223372036854775808 ≤ z ∧ z ≤ 9223372036854775807) : (Lit.int .i64 z).wf = true := WalkArith.wf_i64 (by omega)
theorem specEntR (t : ByteArray) (k : Nat) (w : World) (hk : k ≤ t.size) (ht : t.size ≤ 1048576) :
    Calls Tryz.prog 238 #[.string t, .int .i64 (k : Int)] w fun e w' => EntRE t k e ∧ Below w.heap.size w w' := by
  go_enter Tryz.func238, Tryz.ntmps238
  obtain ⟨W0, hW0⟩ : ∃ W, W = (w.alloc (.cells #[.string ⟨#[]⟩, .int .i64 0, .int .i64 0, .string ⟨#[]⟩, .int .i64 0] 87)).alloc (.cells #[.string ⟨#[]⟩, .int .i64 0, .int .i64 0, .string ⟨#[]⟩, .int .i64 0] 87) := ⟨_, rfl⟩
  have k0 : Below w.heap.size w W0 := by rw [hW0]; exact ((Below.refl _ _).alloc (Nat.le_refl _) _).alloc (by simp) _
  have A0 : Box5 W0 w.heap.size (.string ⟨#[]⟩) (.int .i64 0) (.int .i64 0) (.string ⟨#[]⟩) (.int .i64 0) := by
    rw [hW0]
    exact (Box5.new _ _ _ _ _ _ _).below ((Below.refl _ _).alloc (Nat.le_refl _) _)
  have E0 : Box5 W0 (w.heap.size + 1) (.string ⟨#[]⟩) (.int .i64 0) (.int .i64 0) (.string ⟨#[]⟩) (.int .i64 0) := by
    rw [hW0]
    have := Box5.new (w.alloc (.cells #[.string ⟨#[]⟩, .int .i64 0, .int .i64 0, .string ⟨#[]⟩, .int .i64 0] 87)) 87 (.string ⟨#[]⟩) (.int .i64 0) (.int .i64 0) (.string ⟨#[]⟩) (.int .i64 0)
    simpa using this
  go_wp2_with fail
  rw [← hW0]
  clear hW0
  obtain ⟨A, hA⟩ : ∃ A, A = w.heap.size := ⟨_, rfl⟩
  obtain ⟨E, hE⟩ : ∃ E, E = w.heap.size + 1 := ⟨_, rfl⟩
  have hAE : A < E := by omega
  have HA : Hid (w.heap.size ≤ A) := by show _ ≤ _; omega
  rw [← hE] at E0
  rw [← hA] at A0
  simp only [← hE]
  simp only [← hA]
  clear hA hE
  have HB0 : Hid (Below w.heap.size w W0) := k0
  clear k0
  refine (specWordE t k _ hk ht).mono ?_
  rintro e w1 ⟨⟨s, z1, rfl, hs⟩, b1⟩
  have H1 : Hid (WordAtE t k s z1) := hs
  have P1 : Hid (PlaceE t z1) := hs.1
  have A1 := A0.below b1
  have F1 := E0.below b1
  have HC1 : Hid (Below w.heap.size w w1) := HB0.out.trans (b1.mono HB0.out.size)
  clear hs b1 A0 E0 HB0
  have f0 := F1.c0
  have f1 : w1.frozen? ⟨E, 0, none⟩ = false := F1.fr 0
  have hEl := F1.lt
  go_wp2_with fail
  obtain ⟨W1, hW1⟩ : ∃ W, W = w1.setCell ⟨E, 0, none⟩ (.string s) := ⟨_, rfl⟩
  have E1 : Box5 W1 E (.string s) (.int .i64 0) (.int .i64 0) (.string ⟨#[]⟩) (.int .i64 0) := by rw [hW1]; exact F1.set0 _
  have B1 : Box5 W1 A (.string ⟨#[]⟩) (.int .i64 0) (.int .i64 0) (.string ⟨#[]⟩) (.int .i64 0) := by rw [hW1]; exact A1.other (by omega) _ _
  have HB1 : Hid (Below w.heap.size w W1) := by rw [hW1]; exact HC1.out.setCell (by have := HA.out; show _ ≤ E; omega) _
  rw [← hW1]
  clear hW1 F1 A1 HC1 f0 f1 hEl
  refine (specNumE t z1 _ P1.out ht).mono ?_
  rintro e w2 ⟨⟨q, z2, rfl, hs⟩, b1⟩
  have H2 : Hid (NumZE t z1 q z2) := hs
  have P2 : Hid (PlaceE t z2) := hs.2.1
  have hr2 := hs.1
  have A2 := B1.below b1
  have F2 := E1.below b1
  have HC2 : Hid (Below w.heap.size w w2) := HB1.out.trans (b1.mono HB1.out.size)
  clear hs b1 B1 E1 HB1
  have f0 := F2.c1
  have f1 : w2.frozen? ⟨E, 1, none⟩ = false := F2.fr 1
  have hEl := F2.lt
  go_wp2_with fail
  obtain ⟨W2, hW2⟩ : ∃ W, W = w2.setCell ⟨E, 1, none⟩ (.int .i64 q) := ⟨_, rfl⟩
  have E2 : Box5 W2 E (.string s) (.int .i64 q) (.int .i64 0) (.string ⟨#[]⟩) (.int .i64 0) := by rw [hW2]; exact F2.set1 _
  have B2 : Box5 W2 A (.string ⟨#[]⟩) (.int .i64 0) (.int .i64 0) (.string ⟨#[]⟩) (.int .i64 0) := by rw [hW2]; exact A2.other (by omega) _ _
  have HB2 : Hid (Below w.heap.size w W2) := by rw [hW2]; exact HC2.out.setCell (by have := HA.out; show _ ≤ E; omega) _
  rw [← hW2]
  clear hW2 F2 A2 HC2 f0 f1 hEl
  refine (specNumE t z2 _ P2.out ht).mono ?_
  rintro e w3 ⟨⟨d, z3, rfl, hs⟩, b1⟩
  have H3 : Hid (NumZE t z2 d z3) := hs
  have P3 : Hid (PlaceE t z3) := hs.2.1
  have hr3 := hs.1
  have A3 := B2.below b1
  have F3 := E2.below b1
  have HC3 : Hid (Below w.heap.size w w3) := HB2.out.trans (b1.mono HB2.out.size)
  clear hs b1 B2 E2 HB2
  have f0 := F3.c2
  have f1 : w3.frozen? ⟨E, 2, none⟩ = false := F3.fr 2
  have hEl := F3.lt
  go_wp2_with fail
  obtain ⟨W3, hW3⟩ : ∃ W, W = w3.setCell ⟨E, 2, none⟩ (.int .i64 d) := ⟨_, rfl⟩
  have E3 : Box5 W3 E (.string s) (.int .i64 q) (.int .i64 d) (.string ⟨#[]⟩) (.int .i64 0) := by rw [hW3]; exact F3.set2 _
  have B3 : Box5 W3 A (.string ⟨#[]⟩) (.int .i64 0) (.int .i64 0) (.string ⟨#[]⟩) (.int .i64 0) := by rw [hW3]; exact A3.other (by omega) _ _
  have HB3 : Hid (Below w.heap.size w W3) := by rw [hW3]; exact HC3.out.setCell (by have := HA.out; show _ ≤ E; omega) _
  rw [← hW3]
  clear hW3 F3 A3 HC3 f0 f1 hEl
  refine (specNumE t z3 _ P3.out ht).mono ?_
  rintro e w4 ⟨⟨n, z4, rfl, hs⟩, b1⟩
  have H4 : Hid (NumZE t z3 n z4) := hs
  have P4 : Hid (PlaceE t z4) := hs.2.1
  have hr4 := hs.1
  have A4 := B3.below b1
  have F4 := E3.below b1
  have HC4 : Hid (Below w.heap.size w w4) := HB3.out.trans (b1.mono HB3.out.size)
  clear hs b1 B3 E3 HB3
  have f0 := F4.c4
  have f1 : w4.frozen? ⟨E, 4, none⟩ = false := F4.fr 4
  have hEl := F4.lt
  go_wp2_with fail
  obtain ⟨W4, hW4⟩ : ∃ W, W = w4.setCell ⟨E, 4, none⟩ (.int .i64 n) := ⟨_, rfl⟩
  have E4 : Box5 W4 E (.string s) (.int .i64 q) (.int .i64 d) (.string ⟨#[]⟩) (.int .i64 n) := by rw [hW4]; exact F4.set4 _
  have B4 : Box5 W4 A (.string ⟨#[]⟩) (.int .i64 0) (.int .i64 0) (.string ⟨#[]⟩) (.int .i64 0) := by rw [hW4]; exact A4.other (by omega) _ _
  have HB4 : Hid (Below w.heap.size w W4) := by rw [hW4]; exact HC4.out.setCell (by have := HA.out; show _ ≤ E; omega) _
  rw [← hW4]
  clear hW4 F4 A4 HC4 f0 f1 hEl
  refine (specNumE t z4 _ P4.out ht).mono ?_
  rintro e w5 ⟨⟨m, z5, rfl, hs⟩, b1⟩
  have H5 : Hid (NumZE t z4 m z5) := hs
  have P5 : Hid (PlaceE t z5) := hs.2.1
  have hr5 := hs.1
  have A5 := B4.below b1
  have F5 := E4.below b1
  have HC5 : Hid (Below w.heap.size w w5) := HB4.out.trans (b1.mono HB4.out.size)
  clear hs b1 B4 E4 HB4
  have HCH : Hid (∀ (X : EntD) (r : List UInt8), entOk X = true → t.data.toList.drop k = entT X ++ r → s = X.1 ∧ q = X.2.1 ∧ d = X.2.2.1 ∧ n = X.2.2.2.2 ∧ m = (X.2.2.2.1.size : Int) ∧ ∃ j : Nat, z5 = (j : Int) ∧ t.data.toList.drop j = X.2.2.2.1.data.toList ++ r) := fun X r hX hd => ent_chain H1.out H2.out H3.out H4.out H5.out hX hd
  have hs1 := H1.out.2.1
  have f0 := F5.c0
  have f1 := F5.c1
  have f2 := F5.c2
  have f3 := F5.c3
  have f4 := F5.c4
  have a0 := A5.c0
  have a1 := A5.c1
  have a2 := A5.c2
  have a3 := A5.c3
  have a4 := A5.c4
  have b0 : w5.frozen? ⟨A, 0, none⟩ = false := A5.fr 0
  have b1 : w5.frozen? ⟨A, 1, none⟩ = false := A5.fr 1
  have b2 : w5.frozen? ⟨A, 2, none⟩ = false := A5.fr 2
  have b3 : w5.frozen? ⟨A, 3, none⟩ = false := A5.fr 3
  have b4 : w5.frozen? ⟨A, 4, none⟩ = false := A5.fr 4
  have ff : w5.frozen? ⟨E, 3, none⟩ = false := F5.fr 3
  have hEl := F5.lt
  have hAl := A5.lt
  have hne : E ≠ A := by omega
  have hne' : A ≠ E := by omega
  have HAE : Hid (w.heap.size ≤ A ∧ w.heap.size ≤ E) := ⟨HA.out, by have := HA.out; omega⟩
  clear A5 F5 HA
  have HNB : Hid (Below w.heap.size w (((((w5.setCell ⟨A, 0, none⟩ (.string ⟨#[]⟩)).setCell ⟨A, 1, none⟩ (.int .i64 0)).setCell ⟨A, 2, none⟩ (.int .i64 0)).setCell ⟨A, 3, none⟩ (.string ⟨#[]⟩)).setCell ⟨A, 4, none⟩ (.int .i64 0))) := (((((HC5.out.setCell HAE.out.1 _).setCell HAE.out.1 _).setCell HAE.out.1 _).setCell HAE.out.1 _).setCell HAE.out.1 _)
  rcases P5.out with rfl | ⟨j, rfl, hj⟩
  · clear H1 H2 H3 H4 H5 P1 P2 P3 P4
    have HNX : Hid (∀ (X : EntD) (r : List UInt8), entOk X = true → t.data.toList.drop k = entT X ++ r → False) := fun X r hX hd => by
      obtain ⟨h1, h2, h3, h4, h5, j', h6, h7⟩ := HCH.out X r hX hd
      omega
    go_wp2
    exact bodyPost_ret (v := .tuple #[.agg #[.string ⟨#[]⟩, .int .i64 0, .int .i64 0, .string ⟨#[]⟩, .int .i64 0], .int .i64 (-1)]) (by simp [results, Tryz.results238, go_sem, a0, a1, a2, a3, a4]) rfl ⟨⟨⟨#[]⟩, ⟨#[]⟩, 0, 0, 0, -1, rfl, ent_w (by decide) (by decide) (by decide) (by decide) (by decide), Or.inl rfl, fun X r hX hd => absurd (HNX.out X r hX hd) id⟩, HNB.out⟩
  have hj0 : ¬ (j : Int) < 0 := by omega
  clear H1 H2 H3 H4 H5 P1 P2 P3 P4 P5
  by_cases hm : m < 0
  · clear hj0
    have hj0 : ¬ (j : Int) < 0 := by omega
    have HNX : Hid (∀ (X : EntD) (r : List UInt8), entOk X = true → t.data.toList.drop k = entT X ++ r → False) := fun X r hX hd => by
      obtain ⟨h1, h2, h3, h4, h5, j', h6, h7⟩ := HCH.out X r hX hd
      omega
    go_wp2
    exact bodyPost_ret (v := .tuple #[.agg #[.string ⟨#[]⟩, .int .i64 0, .int .i64 0, .string ⟨#[]⟩, .int .i64 0], .int .i64 (-1)]) (by simp [results, Tryz.results238, go_sem, a0, a1, a2, a3, a4]) rfl ⟨⟨⟨#[]⟩, ⟨#[]⟩, 0, 0, 0, -1, rfl, ent_w (by decide) (by decide) (by decide) (by decide) (by decide), Or.inl rfl, fun X r hX hd => absurd (HNX.out X r hX hd) id⟩, HNB.out⟩
  obtain ⟨M, rfl⟩ := Int.eq_ofNat_of_zero_le (show 0 ≤ m by omega)
  have hwr : IntKind.i64.wrap ((t.size : Int) - (j : Int)) = (t.size : Int) - (j : Int) := by rw [IntWalk.i64_left]; unfold wrap64; omega
  by_cases hgt : (t.size : Int) - (j : Int) < (M : Int)
  · have HNX : Hid (∀ (X : EntD) (r : List UInt8), entOk X = true → t.data.toList.drop k = entT X ++ r → False) := fun X r hX hd => by
      obtain ⟨h1, h2, h3, h4, h5, j', h6, h7⟩ := HCH.out X r hX hd
      have hl := congrArg List.length h7
      rw [List.length_drop, bytes_len, List.length_append, bytes_len] at hl
      omega
    go_wp2
    exact bodyPost_ret (v := .tuple #[.agg #[.string ⟨#[]⟩, .int .i64 0, .int .i64 0, .string ⟨#[]⟩, .int .i64 0], .int .i64 (-1)]) (by simp [results, Tryz.results238, go_sem, a0, a1, a2, a3, a4]) rfl ⟨⟨⟨#[]⟩, ⟨#[]⟩, 0, 0, 0, -1, rfl, ent_w (by decide) (by decide) (by decide) (by decide) (by decide), Or.inl rfl, fun X r hX hd => absurd (HNX.out X r hX hd) id⟩, HNB.out⟩
  have hwr2 : IntKind.i64.wrap ((j : Int) + (M : Int)) = (j : Int) + (M : Int) := by rw [IntWalk.i64_left]; unfold wrap64; omega
  have g0 : (j : Int) ≤ (j : Int) + (M : Int) := by omega
  have g1 : (j : Int) + (M : Int) ≤ (t.size : Int) := by omega
  have g2 : 0 ≤ (j : Int) := by omega
  have g3 : 0 ≤ (j : Int) + (M : Int) := by omega
  obtain ⟨u, hu⟩ : ∃ u, u = t.extract j (j + M) := ⟨_, rfl⟩
  have HU : Hid (u.data.toList = (t.data.toList.drop j).take M ∧ u.size ≤ 1048576) := by
    rw [hu]
    refine ⟨?_, by rw [ByteArray.size_extract]; omega⟩
    rw [ext_toList]
    congr 1
    omega
  have HNB2 : Hid (Below w.heap.size w (((((((w5.setCell ⟨E, 3, none⟩ (.string u)).setCell ⟨A, 0, none⟩ (.string s)).setCell ⟨A, 1, none⟩ (.int .i64 q)).setCell ⟨A, 2, none⟩ (.int .i64 d)).setCell ⟨A, 3, none⟩ (.string u)).setCell ⟨A, 4, none⟩ (.int .i64 n)))) := ((((((HC5.out.setCell HAE.out.2 _).setCell HAE.out.1 _).setCell HAE.out.1 _).setCell HAE.out.1 _).setCell HAE.out.1 _).setCell HAE.out.1 _)
  have HPOST : Hid (EntRE t k (.returned (.tuple #[.agg #[.string s, .int .i64 q, .int .i64 d, .string u, .int .i64 n], .int .i64 ((j : Int) + (M : Int))]))) := by
    refine ⟨s, u, q, d, n, _, rfl, ent_w hs1 (wf_i64' hr2) (wf_i64' hr3) HU.out.2 (wf_i64' hr4), Or.inr ⟨j + M, by omega, by omega⟩, fun X r hX hd => ?_⟩
    obtain ⟨h1, h2, h3, h4, h5, j', h6, h7⟩ := HCH.out X r hX hd
    obtain rfl : j = j' := by omega
    have hM : M = X.2.2.2.1.data.toList.length := by rw [bytes_len]; omega
    have hut : u = X.2.2.2.1 := by
      have := HU.out.1
      rw [h7, hM, List.take_left] at this
      exact ByteArray.ext (Array.toList_inj.1 this)
    refine ⟨by rw [h1, h2, h3, h4, hut], j + M, by omega, ?_⟩
    rw [← List.drop_drop, h7, hM, List.drop_left]
  have HUE : Hid (u = t.extract j (j + M)) := hu
  clear HCH HNB hu
  go_wp2
  rw [← HUE.out]
  exact bodyPost_ret (v := .tuple #[.agg #[.string s, .int .i64 q, .int .i64 d, .string u, .int .i64 n], .int .i64 ((j : Int) + (M : Int))]) (by simp [results, Tryz.results238, go_sem, a0, a1, a2, a3, a4]) rfl ⟨HPOST.out, HNB2.out⟩
end Go.Proofs.YtapjkbpfhmbfaaaGreatDoor

namespace Go.Proofs.YtapjkbpfhmbfaaaGreatDoor
open Go.RowKit
set_option maxRecDepth 100000
set_option maxHeartbeats 4000000
theorem cellFive (w : World) (s : ByteArray) (Q d : Int) (t : ByteArray) (m : Int) : ∀ j u, [Value.string s, .int .i64 Q, .int .i64 d, .string t, .int .i64 m][j]? = some u → (w.alloc (.cells #[.string s, .int .i64 Q, .int .i64 d, .string t, .int .i64 m] 87)).cell? ((⟨w.heap.size, 0, none⟩ : Addr).add j) = some u := by
  intro j u hu
  rw [Go.WideShapes.add_plain]
  match j, hu with
  | 0, hu => simp at hu; subst hu; simp
  | 1, hu => simp at hu; subst hu; simp
  | 2, hu => simp at hu; subst hu; simp
  | 3, hu => simp at hu; subst hu; simp
  | 4, hu => simp at hu; subst hu; simp
theorem rowStay {w w' : World} {base e size n : Nat} {v : Value} {xs : List Value} (h : w.ownsRow base e size v n xs) (hb : Below w.heap.size w w') : w'.ownsRow base e size v n xs := h.kept (row := none) ⟨hb.os, hb.tape, hb.output, hb.size, fun k hk _ => hb.block k hk⟩ (by
  cases v.ownBlock with
  | none => exact .inl rfl
  | some x => exact .inr (by simp))
theorem rowSome {w : World} {base e size n : Nat} {v : Value} {xs : List Value} {g0 : Addr} {n0 c0 m : Nat} (h : w.ownsRow base e size v n xs) (hn : v = .slice none 0 0 ↔ Value.slice (some g0) n0 c0 = .slice none 0 0 ∧ m = 0) : ∃ g c, v = .slice (some ⟨g, 0, none⟩) n c :=
  row_form h (fun e => by cases (hn.1 e).1)
def BodyI (t : ByteArray) (i : Nat) (M : List EntD) (z : Int) : Prop := ∀ L : List EntD, (∀ e ∈ L, entOk e = true) → L.length ≤ 12 → t.data.toList = entsT L → M = L.take i ∧ ∃ j : Nat, z = (j : Int) ∧ t.data.toList.drop j = entsT (L.drop i)
def BodyE (t : ByteArray) (w : World) (e : Ending) (w' : World) : Prop := ∃ (g n c : Nat) (M : List EntD), e = .returned (.slice (some ⟨g, 0, none⟩) n c) ∧ OwnE w' w.heap.size g n c M ∧ n ≤ 13 ∧ ∀ L : List EntD, (∀ e ∈ L, entOk e = true) → L.length ≤ 12 → t.data.toList = entsT L → M = L
theorem BodyI.start (t : ByteArray) : BodyI t 0 [] 0 := fun L _ _ h => ⟨by simp, 0, rfl, by simpa using h⟩
theorem entsT_nil {L : List EntD} (h : entsT L = []) : L = [] := by
  cases L with
  | nil => rfl
  | cons e r =>
    have h1 := entT_pos e
    have h2 : (entsT (e :: r)).length = 0 := by rw [h]; rfl
    simp [entsT] at h2
    rw [h2.1] at h1
    simp at h1
theorem BodyI.out {t : ByteArray} {i j : Nat} {M : List EntD} (h : BodyI t i M (j : Int)) (hj : t.size ≤ j) (L : List EntD) (h1 : ∀ e ∈ L, entOk e = true) (h2 : L.length ≤ 12) (h3 : t.data.toList = entsT L) : M = L := by
  obtain ⟨e1, j', e2, e3⟩ := h L h1 h2 h3
  obtain rfl : j = j' := by omega
  rw [List.drop_of_length_le (by rw [bytes_len]; exact hj)] at e3
  have e4 := entsT_nil e3.symm
  have e5 := List.take_append_drop i L
  rw [e4, List.append_nil] at e5
  rw [e1, e5]
theorem BodyI.next {t : ByteArray} {i k : Nat} {M : List EntD} {E : EntD} {z : Int} (h : BodyI t i M (k : Int)) (hk : k < t.size) (hE : ∀ (X : EntD) (r : List UInt8), entOk X = true → t.data.toList.drop k = entT X ++ r → E = X ∧ ∃ j : Nat, z = (j : Int) ∧ t.data.toList.drop j = r) : BodyI t (i + 1) (M ++ [E]) z := by
  intro L h1 h2 h3
  obtain ⟨e1, j', e2, e3⟩ := h L h1 h2 h3
  obtain rfl : k = j' := by omega
  cases hd : L.drop i with
  | nil =>
    rw [hd] at e3
    have := congrArg List.length e3
    rw [List.length_drop, bytes_len] at this
    simp [entsT] at this
    omega
  | cons X r =>
    have hX : X ∈ L := List.mem_of_mem_drop (by rw [hd]; exact List.mem_cons_self ..)
    rw [hd] at e3
    obtain ⟨rfl, j, rfl, hj⟩ := hE X (entsT r) (h1 X hX) (by rw [e3]; simp [entsT])
    have hi : L[i]? = some E := by
      have := congrArg (fun l => l[0]?) hd
      simpa [List.getElem?_drop] using this
    refine ⟨?_, j, rfl, ?_⟩
    · rw [e1, List.take_add_one, hi]; rfl
    · rw [hj]
      have : L.drop (i + 1) = r := by rw [← List.drop_drop, hd]; rfl
      rw [this]
def lenV : Value → Nat
  | .slice _ n _ => n
  | _ => 0
theorem specBody (t : ByteArray) (w : World) (ht : t.size ≤ 1048576) :
    Calls Tryz.prog 188 #[.string t] w fun e w' => BodyE t w e w' ∧ Below w.heap.size w w' := by
  obtain ⟨i0, hi, hz0, hz1, hz2⟩ := info_parts Tryz.infoEnt
  have HE0 : Hid ((w.alloc (.cells #[] 87)).ownsRow w.heap.size 87 5 (.slice (some ⟨w.heap.size, 0, none⟩) 0 0) 0 (flatE [])) := by
    have := World.ownsRow_lit (base := w.heap.size) (e := 87) (size := 5) w #[] 0 (Nat.le_refl _) (by simp) (by simp)
    show World.ownsRow _ _ _ _ _ _ _
    simpa [flatE] using this
  have hB0 : Below w.heap.size w (w.alloc (.cells #[] 87)) := (Below.refl _ _).alloc (Nat.le_refl _) _
  go_enter Tryz.func188, Tryz.ntmps188
  go_wp2
  go_loopw [3, 4] (fun vv zv wr => ∃ (i : Nat) (M : List EntD) (z : Int), i ≤ 13 ∧ zv = .int .i64 z ∧ PlaceE t z ∧ (∃ g c', vv = .slice (some ⟨g, 0, none⟩) i c') ∧ wr.ownsRow w.heap.size 87 5 vv i (flatE M) ∧ M.length = i ∧ (∀ l ∈ M, EntW l) ∧ BodyI t i M z ∧ Below w.heap.size w wr) (fun vv _ _ => 13 - lenV vv)
  case atStart => exact ⟨0, [], 0, by omega, rfl, Or.inr ⟨0, rfl, by omega⟩, ⟨_, _, rfl⟩, HE0.out, rfl, by simp, BodyI.start t, hB0⟩
  case round =>
    clear HE0 hB0
    obtain ⟨i, M, z, hin, rfl, hpl, ⟨gv, cv, rfl⟩, hv, hml, hw, hbi, hb⟩ := hrel
    have HV : Hid (wr.ownsRow w.heap.size 87 5 (.slice (some ⟨gv, 0, none⟩) i cv) i (flatE M)) := hv
    have HW : Hid (∀ l ∈ M, EntW l) := hw
    have HBI : Hid (BodyI t i M z) := hbi
    have HML : Hid (M.length = i) := hml
    have HB : Hid (Below w.heap.size w wr) := hb
    have hbz := hb.size
    have HRES : Hid (OwnE wr w.heap.size gv i cv M) := ⟨hv, hml, hw⟩
    clear hv hw hbi hml hb
    rcases hpl with rfl | ⟨j, rfl, hj⟩
    · go_wp2
      go_ret
      refine ⟨⟨gv, i, cv, M, rfl, HRES.out, hin, fun L h1 h2 h3 => ?_⟩, HB.out⟩
      obtain ⟨_, j', e2, _⟩ := HBI.out L h1 h2 h3
      omega
    have hj0 : (j : Int) ≥ 0 := by omega
    by_cases hlt : j < t.size
    · have hltI : (j : Int) < (t.size : Int) := by omega
      by_cases h12 : i ≤ 12
      · have h12I : (i : Int) ≤ 12 := by omega
        obtain ⟨W0, hW0⟩ : ∃ W, W = wr.alloc (.cells #[.string ⟨#[]⟩, .int .i64 0, .int .i64 0, .string ⟨#[]⟩, .int .i64 0] 87) := ⟨_, rfl⟩
        have kq : Below wr.heap.size wr W0 := by rw [hW0]; exact (Below.refl _ _).alloc (Nat.le_refl _) _
        have E0 : Box5 W0 wr.heap.size (.string ⟨#[]⟩) (.int .i64 0) (.int .i64 0) (.string ⟨#[]⟩) (.int .i64 0) := by rw [hW0]; exact Box5.new _ _ _ _ _ _ _
        have HV0 : Hid (W0.ownsRow w.heap.size 87 5 (.slice (some ⟨gv, 0, none⟩) i cv) i (flatE M)) := rowStay HV.out kq
        have HBQ : Hid (Below w.heap.size w W0) := HB.out.trans (kq.mono HB.out.size)
        have HGV : Hid (gv < wr.heap.size) := (HV.out.lt gv rfl).2
        go_wp2_with fail
        rw [← hW0]
        obtain ⟨E, hE⟩ : ∃ E, E = wr.heap.size := ⟨_, rfl⟩
        rw [← hE] at E0
        simp only [← hE]
        have HEB : Hid (w.heap.size ≤ E ∧ gv < E) := by have := HGV.out; exact ⟨by omega, by omega⟩
        clear hE hW0 kq
        refine (specEntR t j _ (by omega) ht).mono ?_
        rintro e w1 ⟨⟨kk, tt, q, d, n, z, rfl, hew, hpz, hent⟩, hb1⟩
        have HEW : Hid (EntW (kk, q, d, tt, n)) := hew
        have HPZ : Hid (PlaceE t z) := hpz
        have HENT : Hid (BodyI t (i + 1) (M ++ [(kk, q, d, tt, n)]) z) := HBI.out.next hlt hent
        have E1 := E0.below hb1
        have HV1 : Hid (w1.ownsRow w.heap.size 87 5 (.slice (some ⟨gv, 0, none⟩) i cv) i (flatE M)) := rowStay HV0.out hb1
        have HB1 : Hid (Below w.heap.size w w1) := HBQ.out.trans (hb1.mono HBQ.out.size)
        clear hew hpz hent hb1 E0
        have f0 := E1.c0
        have f1 := E1.c1
        have f2 := E1.c2
        have f3 := E1.c3
        have f4 := E1.c4
        have b0 : w1.frozen? ⟨E, 0, none⟩ = false := E1.fr 0
        have b1 : w1.frozen? ⟨E, 1, none⟩ = false := E1.fr 1
        have b2 : w1.frozen? ⟨E, 2, none⟩ = false := E1.fr 2
        have b3 : w1.frozen? ⟨E, 3, none⟩ = false := E1.fr 3
        have b4 : w1.frozen? ⟨E, 4, none⟩ = false := E1.fr 4
        have hEl := E1.lt
        obtain ⟨W2, hW2⟩ : ∃ W, W = ((((w1.setCell ⟨E, 0, none⟩ (.string kk)).setCell ⟨E, 1, none⟩ (.int .i64 q)).setCell ⟨E, 2, none⟩ (.int .i64 d)).setCell ⟨E, 3, none⟩ (.string tt)).setCell ⟨E, 4, none⟩ (.int .i64 n) := ⟨_, rfl⟩
        have E2 : Box5 W2 E (.string kk) (.int .i64 q) (.int .i64 d) (.string tt) (.int .i64 n) := by rw [hW2]; exact E1.setAll _ _ _ _ _
        have G2 : w1.grownBy W2 (some E) := by
          rw [hW2]
          exact ⟨rfl, rfl, rfl, by simp [World.setCell], fun x _ hx => by
            have hx' : x ≠ E := fun e => hx (by rw [e])
            rw [Below.heap_setCell _ _ _ _ hx', Below.heap_setCell _ _ _ _ hx', Below.heap_setCell _ _ _ _ hx', Below.heap_setCell _ _ _ _ hx', Below.heap_setCell _ _ _ _ hx']⟩
        have HV2 : Hid (W2.ownsRow w.heap.size 87 5 (.slice (some ⟨gv, 0, none⟩) i cv) i (flatE M)) := HV1.out.kept G2 (.inr (by have := HEB.out.2; simp [Value.ownBlock]; omega))
        have HB2 : Hid (Below w.heap.size w W2) := HB1.out.grown G2 HB1.out.size (fun k e => by cases e; exact HEB.out.1)
        clear G2 E1
        go_upto_region 6 with fail
        rw [← hW2]
        clear hW2 f0 f1 f2 f3 f4 b0 b1 b2 b3 b4 hEl
        have f0 := E2.c0
        have f1 := E2.c1
        have f2 := E2.c2
        have f3 := E2.c3
        have f4 := E2.c4
        have hEl := E2.lt
        have HCN : Hid (∀ j u, [Value.string kk, .int .i64 q, .int .i64 d, .string tt, .int .i64 n][j]? = some u → (W2.alloc (.cells #[.string kk, .int .i64 q, .int .i64 d, .string tt, .int .i64 n] 87)).cell? ((⟨W2.heap.size, 0, none⟩ : Addr).add j) = some u) := cellFive W2 kk q d tt n
        have ka : Below W2.heap.size W2 (W2.alloc (.cells #[.string kk, .int .i64 q, .int .i64 d, .string tt, .int .i64 n] 87)) := (Below.refl _ _).alloc (Nat.le_refl _) _
        have HVA : Hid ((W2.alloc (.cells #[.string kk, .int .i64 q, .int .i64 d, .string tt, .int .i64 n] 87)).ownsRow w.heap.size 87 5 (.slice (some ⟨gv, 0, none⟩) i cv) i (flatE M)) := rowStay HV2.out ka
        have HBA : Hid (Below w.heap.size w (W2.alloc (.cells #[.string kk, .int .i64 q, .int .i64 d, .string tt, .int .i64 n] 87))) := HB2.out.trans (ka.mono HB2.out.size)
        clear ka
        go_wp2_with (at_builtin; refine wpList_append_own _ rfl _ _ 33 rfl w.heap.size 87 i0 _ 5 56 Tryz.underlying33 hi hz0 hz1 hz2 rfl (by decide) _ _ _ rfl HVA.out ⟨W2.heap.size, 0, none⟩ 1 1 [.string kk, .int .i64 q, .int .i64 d, .string tt, .int .i64 n] rfl rfl HCN.out (by intro u hu; simp at hu; rcases hu with rfl | rfl | rfl | rfl | rfl <;> rfl) (by unfold maxLen; omega) (by omega) HBA.out.size ?_; intro v2 w2 hown2 hgrow2 hnil2; obtain ⟨g2, c2, rfl⟩ := rowSome hown2 hnil2)
        go_roundw
        case rel =>
          refine ⟨i + 1, M ++ [(kk, q, d, tt, n)], z, by omega, rfl, HPZ.out, ⟨_, _, rfl⟩, ?_, by rw [List.length_append, HML.out]; rfl, ?_, HENT.out, ?_⟩
          · rw [flatE_append]
            exact hown2
          · intro l hl
            rcases List.mem_append.1 hl with h | h
            · exact HW.out l h
            · rw [List.mem_singleton] at h; subst h; exact HEW.out
          · exact HBA.out.grown hgrow2 HBA.out.size (fun k e => (HVA.out.lt k e).1)
        case measure => simp [lenV]; omega
      · have h12I : ¬ (i : Int) ≤ 12 := by omega
        go_wp2
        go_ret
        refine ⟨⟨gv, i, cv, M, rfl, HRES.out, hin, fun L h1 h2 h3 => ?_⟩, HB.out⟩
        obtain ⟨e1, _⟩ := HBI.out L h1 h2 h3
        have h4 := HML.out
        rw [e1, List.length_take] at h4
        omega
    · have hltI : ¬ (j : Int) < (t.size : Int) := by omega
      go_wp2
      go_ret
      exact ⟨⟨gv, i, cv, M, rfl, HRES.out, hin, fun L h1 h2 h3 => HBI.out.out (by omega) L h1 h2 h3⟩, HB.out⟩
end Go.Proofs.YtapjkbpfhmbfaaaGreatDoor
