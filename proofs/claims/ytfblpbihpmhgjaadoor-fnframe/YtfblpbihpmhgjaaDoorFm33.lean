/-
  The document's batch at a place of a text, by a walk of its Go text.
-/
import Derived.Test.YtfblpbihpmhgjaaDoorFm31
import Derived.Test.YtfblpbihpmhgjaaDoorFm23
import Derived.Deep.RegionHeld3
import Derived.Deep.RegionWith
namespace Go.Proofs.YtfblpbihpmhgjaaDoor
open Go.RowKit

/-- What is read of a batch at the place k. -/
def FrmE (t : ByteArray) (k : Nat) (w : World) (e : Ending) (w' : World) : Prop :=
  (∃ (L : List EntD) (g n c : Nat) (z : Int), FrAt (t.data.toList.drop k) L ∧ e = .returned (.tuple #[.slice (some ⟨g, 0, none⟩) n c, .int .i64 z]) ∧ z = ((k + (frameT L).length : Nat) : Int) ∧ OwnE w' w.heap.size g n c L) ∨
  ((∀ L, ¬ FrAt (t.data.toList.drop k) L) ∧ ∃ v, e = .returned (.tuple #[v, .int .i64 (-1)]))
/-- A batch that stands at the place k is what is read there. -/
theorem frm_body {t u : ByteArray} {k j n : Nat} {m : Int} {M L : List EntD} (hF : FrAt (t.data.toList.drop k) L)
    (hn : ∀ (m' : Int) (r : List UInt8), -10000000 ≤ m' → m' ≤ 10000000 → t.data.toList.drop k = Lib.itoa m' ++ 32 :: r → m = m' ∧ ∃ j' : Nat, (j : Int) = (j' : Int) ∧ t.data.toList.drop j' = r) (hm : m = (n : Int))
    (hu : u.data.toList = (t.data.toList.drop j).take n) (hM : ∀ L : List EntD, (∀ e ∈ L, entOk e = true) → L.length ≤ 12 → u.data.toList = entsT L → M = L) : M = L ∧ n = (entsT L).length ∧ t.data.toList.drop k = Lib.itoa (n : Int) ++ 32 :: t.data.toList.drop j := by
  obtain ⟨hd, r, hr⟩ := hF
  obtain ⟨h1, h2, h3⟩ := done_parts hd
  have hs := entsT_small hd
  have e0 : frameT L ++ r = Lib.itoa ((entsT L).length : Int) ++ 32 :: (entsT L ++ 10 :: r) := by simp [frameT]
  rw [e0] at hr
  obtain ⟨a1, j', a2, a3⟩ := hn _ _ (by omega) (by omega) hr
  obtain rfl : j = j' := by omega
  obtain rfl : n = (entsT L).length := by omega
  refine ⟨hM L h3 h2 ?_, rfl, by rw [a3]; exact hr⟩
  rw [hu, a3, List.take_left]

theorem extr_take (t : ByteArray) (k j n : Nat) : (t.extract k (j + n + 1)).data.toList = (t.data.toList.drop k).take (j + n + 1 - k) := ext_toList t k (j + n + 1)
/-- The text that was read is that of the batch. -/
theorem frm_yes {t : ByteArray} {k j n : Nat} {M : List EntD} (h : frameB M = t.extract k (j + n + 1)) (hkj : k < j) (hjn : j + n + 1 ≤ t.size) : FrAt (t.data.toList.drop k) M ∧ j + n + 1 = k + (frameT M).length := by
  have hsz : (frameB M).size = j + n + 1 - k := by rw [h, ByteArray.size_extract]; omega
  cases hd : doneB M with
  | false =>
    rw [frameB_isno hd] at hsz
    have : (0 : Nat) = j + n + 1 - k := hsz
    omega
  | true =>
    have h1 := frameB_is hd
    rw [h, extr_take] at h1
    refine ⟨⟨hd, (t.data.toList.drop k).drop (j + n + 1 - k), ?_⟩, ?_⟩
    · rw [← h1, List.take_append_drop]
    · rw [← h1, List.length_take, List.length_drop, bytes_len]
      omega
theorem frm_no {t : ByteArray} {k j n : Nat} {M L : List EntD} (h : ¬ frameB M = t.extract k (j + n + 1)) (hjt : j ≤ t.size) (hkj : k < j) (hF : FrAt (t.data.toList.drop k) L) (hM : M = L) (hn : n = (entsT L).length) (hd : t.data.toList.drop k = Lib.itoa (n : Int) ++ 32 :: t.data.toList.drop j) : False := by
  subst hM
  apply h
  obtain ⟨hdn, r, hr⟩ := hF
  have hl := congrArg List.length hd
  rw [List.length_drop, bytes_len, List.length_append, List.length_cons, List.length_drop, bytes_len] at hl
  apply ByteArray.ext
  apply Array.toList_inj.1
  rw [frameB_is hdn, extr_take, hr, List.take_left']
  rw [frameT, ← hn, List.length_append, List.length_cons, List.length_append, ← hn]
  simp
  omega

set_option maxHeartbeats 4000000 in
set_option maxRecDepth 100000 in
theorem specFrm (t : ByteArray) (k : Nat) (w : World) (hk : k ≤ t.size) (ht : t.size ≤ 1048576) :
    Calls Tryd.prog 67 #[.string t, .int .i64 (k : Int)] w fun e w' => FrmE t k w e w' ∧ Below w.heap.size w w' := by
  go_enter Tryd.func67, Tryd.ntmps67
  go_wp2_with fail
  refine (specNumAt t k _ hk ht).mono ?_
  rintro e w1 ⟨⟨m, z, rfl, hm1, hpl, hkz, hnum⟩, hb1⟩
  have HB1 : Hid (Below w.heap.size w w1) := hb1
  have hz1 := hb1.size
  clear hb1
  have HNA : Hid (Below w.heap.size w (w1.alloc (.cells #[] 85))) := HB1.out.alloc HB1.out.size _
  rcases hpl with rfl | ⟨j, rfl, hj⟩
  · have HNX : Hid (∀ L, ¬ FrAt (t.data.toList.drop k) L) := by
      rintro L ⟨hd, r, hr⟩
      have hs := entsT_small hd
      have e0 : frameT L ++ r = Lib.itoa ((entsT L).length : Int) ++ 32 :: (entsT L ++ 10 :: r) := by simp [frameT]
      rw [e0] at hr
      obtain ⟨_, j', a2, _⟩ := hnum _ _ (by omega) (by omega) hr
      omega
    clear hnum
    go_wp2
    exact bodyPost_ret (v := .tuple #[.slice (some ⟨w1.heap.size, 0, none⟩) 0 0, .int .i64 (-1)]) (by simp [results, Tryd.results67, go_sem]) rfl ⟨Or.inr ⟨HNX.out, _, rfl⟩, HNA.out⟩
  have HNUM : Hid (∀ (m' : Int) (r : List UInt8), -10000000 ≤ m' → m' ≤ 10000000 → t.data.toList.drop k = Lib.itoa m' ++ 32 :: r → m = m' ∧ ∃ j' : Nat, (j : Int) = (j' : Int) ∧ t.data.toList.drop j' = r) := hnum
  clear hnum
  have hkj := hkz (by omega)
  clear hkz
  have hj0 : ¬ (j : Int) < 0 := by omega
  by_cases hm : m < 0
  · have HNX : Hid (∀ L, ¬ FrAt (t.data.toList.drop k) L) := by
      rintro L ⟨hd, r, hr⟩
      have hs := entsT_small hd
      have e0 : frameT L ++ r = Lib.itoa ((entsT L).length : Int) ++ 32 :: (entsT L ++ 10 :: r) := by simp [frameT]
      rw [e0] at hr
      obtain ⟨_, j', a2, _⟩ := HNUM.out _ _ (by omega) (by omega) hr
      omega
    go_wp2
    exact bodyPost_ret (v := .tuple #[.slice (some ⟨w1.heap.size, 0, none⟩) 0 0, .int .i64 (-1)]) (by simp [results, Tryd.results67, go_sem]) rfl ⟨Or.inr ⟨HNX.out, _, rfl⟩, HNA.out⟩
  obtain ⟨n, rfl⟩ := Int.eq_ofNat_of_zero_le (show 0 ≤ m by omega)
  have hwr : IntKind.i64.wrap ((t.size : Int) - (j : Int)) = (t.size : Int) - (j : Int) := by rw [IntWalk.i64_left]; unfold wrap64; omega
  have hwr1 : IntKind.i64.wrap ((t.size : Int) - (j : Int) - 1) = (t.size : Int) - (j : Int) - 1 := by rw [IntWalk.i64_left]; unfold wrap64; omega
  by_cases hgt : (t.size : Int) - (j : Int) - 1 < (n : Int)
  · have HNX : Hid (∀ L, ¬ FrAt (t.data.toList.drop k) L) := by
      rintro L ⟨hd, r, hr⟩
      have hs := entsT_small hd
      have e0 : frameT L ++ r = Lib.itoa ((entsT L).length : Int) ++ 32 :: (entsT L ++ 10 :: r) := by simp [frameT]
      rw [e0] at hr
      obtain ⟨a1, j', a2, a3⟩ := HNUM.out _ _ (by omega) (by omega) hr
      have hl := congrArg List.length a3
      rw [List.length_drop, bytes_len, List.length_append, List.length_cons] at hl
      omega
    go_wp2
    exact bodyPost_ret (v := .tuple #[.slice (some ⟨w1.heap.size, 0, none⟩) 0 0, .int .i64 (-1)]) (by simp [results, Tryd.results67, go_sem]) rfl ⟨Or.inr ⟨HNX.out, _, rfl⟩, HNA.out⟩
  have hwr2 : IntKind.i64.wrap ((j : Int) + (n : Int)) = (j : Int) + (n : Int) := by rw [IntWalk.i64_left]; unfold wrap64; omega
  have hwr3 : IntKind.i64.wrap ((j : Int) + (n : Int) + 1) = (j : Int) + (n : Int) + 1 := by rw [IntWalk.i64_left]; unfold wrap64; omega
  have g0 : (j : Int) ≤ (j : Int) + (n : Int) := by omega
  have g1 : (j : Int) + (n : Int) ≤ (t.size : Int) := by omega
  have g2 : 0 ≤ (j : Int) := by omega
  have g3 : 0 ≤ (j : Int) + (n : Int) := by omega
  go_wp2_with fail
  obtain ⟨u, hu⟩ : ∃ u, u = t.extract j (j + n) := ⟨_, rfl⟩
  rw [← hu]
  have HU : Hid (u.data.toList = (t.data.toList.drop j).take n ∧ u.size ≤ 1048576) := by
    rw [hu]
    refine ⟨?_, by rw [ByteArray.size_extract]; omega⟩
    rw [ext_toList]
    congr 1
    omega
  clear hu
  refine (specBody u _ HU.out.2).mono ?_
  rintro e w2 ⟨⟨g, x, c, M, rfl, hO, hx, hM⟩, hb2⟩
  have HM : Hid (∀ L : List EntD, (∀ e ∈ L, entOk e = true) → L.length ≤ 12 → u.data.toList = entsT L → M = L) := hM
  have HB2 : Hid (Below w.heap.size w w2) := HB1.out.trans (hb2.mono HB1.out.size)
  have HO : Hid (OwnE w2 w.heap.size g x c M) := hO.mono HB1.out.size
  clear hM hb2 hO
  have h4 : (k : Int) ≤ (j : Int) + (n : Int) + 1 := by omega
  have h5 : (j : Int) + (n : Int) + 1 ≤ (t.size : Int) := by omega
  have h6 : 0 ≤ (k : Int) := by omega
  have h7 : 0 ≤ (j : Int) + (n : Int) + 1 := by omega
  have CF : Hid (Calls Tryd.prog 21 #[.slice (some ⟨g, 0, none⟩) x c] w2.drew fun e w' => e = .returned (.string (frameB M)) ∧ Below w2.drew.heap.size w2.drew w') := specFrame _ _ _ M _ (HO.out.entsAt.keep ((Below.refl _ w2).drew))
  obtain ⟨F, hF⟩ : ∃ F, F = frameB M := ⟨_, rfl⟩
  rw [← hF] at CF
  have k0 : Below w2.heap.size w2 w2.drew := (Below.refl _ w2).drew
  obtain ⟨U, hU⟩ : ∃ U, U = t.extract k (j + n + 1) := ⟨_, rfl⟩
  have HUE : Hid (U = t.extract k (j + n + 1)) := hU
  by_cases heq : F = U
  · have hq : (F.toList == (t.extract k (j + n + 1)).toList) = true := by rw [← hU, heq]; simp
    have hq2 : (F.toList == (t.extract k ((j : Int) + (n : Int) + 1).toNat).toList) = true := by rw [show ((j : Int) + (n : Int) + 1).toNat = j + n + 1 by omega]; exact hq
    have HY : Hid (FrAt (t.data.toList.drop k) M ∧ j + n + 1 = k + (frameT M).length) := frm_yes (by rw [← hF, heq, hU]) (by omega) (by omega)
    clear hU hF heq
    go_upto_region 5 with fail
    go_region_held3 (fun w' => Below w2.heap.size w2 w') (first | with_reducible exact k0 | with_reducible exact k1) (first
      | (go_at_call 21; refine CF.out.mono ?_; rintro e w3 ⟨rfl, hb3⟩; have k1 : Below w2.heap.size w2 w3 := k0.trans (hb3.mono k0.size)))
    all_goals
      have HO3 : Hid (OwnE w3 w.heap.size g x c M) := HO.out.below k1
      have HB3 : Hid (Below w.heap.size w w3) := HB2.out.trans (k1.mono HB2.out.size)
      go_wp2
      exact bodyPost_ret (v := .tuple #[.slice (some ⟨g, 0, none⟩) x c, .int .i64 ((j : Int) + (n : Int) + 1)]) (by simp [results, Tryd.results67, go_sem]) rfl ⟨Or.inl ⟨M, g, x, c, _, HY.out.1, rfl, by have := HY.out.2; omega, HO3.out⟩, HB3.out⟩
  · have hq : (F.toList == (t.extract k (j + n + 1)).toList) = false := by
      rw [← hU, beq_eq_false_iff_ne]
      intro e
      rw [ByteArray.toList_eq, ByteArray.toList_eq] at e
      exact heq (ByteArray.ext (Array.toList_inj.1 e))
    have hq2 : (F.toList == (t.extract k ((j : Int) + (n : Int) + 1).toNat).toList) = false := by rw [show ((j : Int) + (n : Int) + 1).toNat = j + n + 1 by omega]; exact hq
    have HNX : Hid (∀ L, ¬ FrAt (t.data.toList.drop k) L) := by
      intro L hL
      obtain ⟨a1, a2, a3⟩ := frm_body hL HNUM.out rfl HU.out.1 HM.out
      exact frm_no (by rw [← hF, ← hU]; exact heq) hj (by omega) hL a1 a2 a3
    clear hU hF heq
    go_upto_region 5 with fail
    go_region_held3 (fun w' => Below w2.heap.size w2 w') (first | with_reducible exact k0 | with_reducible exact k1) (first
      | (go_at_call 21; refine CF.out.mono ?_; rintro e w3 ⟨rfl, hb3⟩; have k1 : Below w2.heap.size w2 w3 := k0.trans (hb3.mono k0.size)))
    all_goals
      have HB3 : Hid (Below w.heap.size w (w3.alloc (.cells #[] 85))) := (HB2.out.trans (k1.mono HB2.out.size)).alloc (HB2.out.trans (k1.mono HB2.out.size)).size _
      go_wp2
      exact bodyPost_ret (v := .tuple #[.slice (some ⟨w3.heap.size, 0, none⟩) 0 0, .int .i64 (-1)]) (by simp [results, Tryd.results67, go_sem]) rfl ⟨Or.inr ⟨HNX.out, _, rfl⟩, HB3.out⟩

end Go.Proofs.YtfblpbihpmhgjaaDoor
