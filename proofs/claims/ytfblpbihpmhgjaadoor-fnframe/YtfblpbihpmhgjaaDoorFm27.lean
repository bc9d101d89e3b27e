/-
  The document's number at a place of a text, by a walk of its Go text.
  The document's number at a place of a text, or at none, by a walk of its Go text.
-/
import Derived.Test.YtfblpbihpmhgjaaDoorFm18
import Derived.Test.YtfblpbihpmhgjaaDoorFm26
namespace Go.Proofs.YtfblpbihpmhgjaaDoor
open Go.RowKit

/-- A place of the text, or none. -/
def PlaceE (t : ByteArray) (z : Int) : Prop := z = -1 ∨ ∃ j : Nat, z = (j : Int) ∧ j ≤ t.size
/-- What comes of reading a number at the place k: if one stands there that the document writes, it and the place behind it. -/
def NumAt (t : ByteArray) (k : Nat) (e : Ending) : Prop :=
  ∃ n z : Int, e = .returned (.tuple #[.int .i64 n, .int .i64 z]) ∧ (-9223372036854775808 ≤ n ∧ n ≤ 9223372036854775807) ∧ PlaceE t z ∧ (z ≠ -1 → (k : Int) < z) ∧
    ∀ (m : Int) (r : List UInt8), -10000000 ≤ m → m ≤ 10000000 → t.data.toList.drop k = Lib.itoa m ++ 32 :: r → n = m ∧ ∃ j : Nat, z = (j : Int) ∧ t.data.toList.drop j = r

theorem split_one {u v r q : List UInt8} (h : u ++ 32 :: r = v ++ 32 :: q) (hu : (32 : UInt8) ∉ u) (hv : (32 : UInt8) ∉ v) : u = v ∧ r = q := by
  have h1 := word_hit u r hu
  rw [h, word_hit v q hv] at h1
  cases h1
  exact ⟨rfl, rfl⟩

set_option maxHeartbeats 1000000 in
set_option maxRecDepth 100000 in
theorem specNumAt (t : ByteArray) (k : Nat) (w : World) (hk : k ≤ t.size) (ht : t.size ≤ 1048576) :
    Calls Tryd.prog 102 #[.string t, .int .i64 (k : Int)] w fun e w' => NumAt t k e ∧ Below w.heap.size w w' := by
  have hk0 : ¬ (k : Int) < 0 := by omega
  go_enter Tryd.func102, Tryd.ntmps102
  go_wp2_with fail
  refine (specWord t k _ hk ht).mono ?_
  rintro e w1 ⟨he, hb1⟩
  obtain ⟨s, z, rfl, hs, hz⟩ : ∃ (s : ByteArray) (z : Int), e = .returned (.tuple #[.string s, .int .i64 z]) ∧ s.size ≤ 1048576 ∧ (PlaceE t z ∧ (z ≠ -1 → (k : Int) < z) ∧ ∀ (m : Int) (r : List UInt8), t.data.toList.drop k = Lib.itoa m ++ 32 :: r → s.data.toList = Lib.itoa m ∧ ∃ j : Nat, z = (j : Int) ∧ t.data.toList.drop j = r) := by
    rcases he with ⟨j, h1, h2, h3, h4, rfl⟩ | ⟨h1, rfl⟩
    · refine ⟨_, _, rfl, by rw [ByteArray.size_extract]; omega, Or.inr ⟨j + 1, by omega, by omega⟩, fun _ => by omega, fun m r hm => ?_⟩
      obtain ⟨e1, e2⟩ := split_one (h3.symm.trans hm) h4 (itoa_sp m)
      exact ⟨e1, j + 1, by omega, e2⟩
    · refine ⟨_, _, rfl, by decide, Or.inl rfl, fun h => absurd rfl h, fun m r hm => ?_⟩
      rw [hm] at h1
      simp at h1
  have HZ : Hid (PlaceE t z ∧ (z ≠ -1 → (k : Int) < z) ∧ ∀ (m : Int) (r : List UInt8), t.data.toList.drop k = Lib.itoa m ++ 32 :: r → s.data.toList = Lib.itoa m ∧ ∃ j : Nat, z = (j : Int) ∧ t.data.toList.drop j = r) := hz
  clear hz he
  go_wp2_with fail
  refine (specNum s _ hs).mono ?_
  rintro e w2 ⟨⟨n, b, rfl, hn, hn1, hn2⟩, rfl⟩
  have HN : Hid (∀ (m : Int), -10000000 ≤ m → m ≤ 10000000 → s.data.toList = Lib.itoa m → n = m ∧ b = true) := hn
  clear hn
  cases b with
  | true =>
    go_wp2
    refine bodyPost_ret (v := .tuple #[.int .i64 n, .int .i64 z]) (by simp [results, Tryd.results102, go_sem]) rfl ⟨⟨n, z, rfl, ⟨by omega, by omega⟩, HZ.out.1, HZ.out.2.1, fun m r m0 m1 hm => ?_⟩, hb1⟩
    obtain ⟨e1, e2⟩ := HZ.out.2.2 m r hm
    exact ⟨(HN.out m m0 m1 e1).1, e2⟩
  | false =>
    go_wp2
    refine bodyPost_ret (v := .tuple #[.int .i64 0, .int .i64 (-1)]) (by simp [results, Tryd.results102, go_sem]) rfl ⟨⟨0, -1, rfl, ⟨by omega, by omega⟩, Or.inl rfl, fun h => absurd rfl h, fun m r m0 m1 hm => ?_⟩, hb1⟩
    obtain ⟨e1, e2⟩ := HZ.out.2.2 m r hm
    have := (HN.out m m0 m1 e1).2
    cases this

end Go.Proofs.YtfblpbihpmhgjaaDoor

namespace Go.Proofs.YtfblpbihpmhgjaaDoor
open Go.RowKit

set_option maxHeartbeats 400000 in
theorem specNumNo (t : ByteArray) (w : World) : Calls Tryd.prog 102 #[.string t, .int .i64 (-1)] w fun e w' => e = .returned (.tuple #[.int .i64 0, .int .i64 (-1)]) ∧ Below w.heap.size w w' := by
  go_enter Tryd.func102, Tryd.ntmps102
  go_wp2
  exact bodyPost_ret (v := .tuple #[.int .i64 0, .int .i64 (-1)]) (by simp [results, Tryd.results102, go_sem]) rfl ⟨rfl, Below.refl _ _⟩

/-- A number at a place, or at none. -/
theorem specNumZ (t : ByteArray) (z : Int) (w : World) (hz : PlaceE t z) (ht : t.size ≤ 1048576) :
    Calls Tryd.prog 102 #[.string t, .int .i64 z] w fun e w' => (∃ n z' : Int, e = .returned (.tuple #[.int .i64 n, .int .i64 z']) ∧ (-9223372036854775808 ≤ n ∧ n ≤ 9223372036854775807) ∧ PlaceE t z' ∧ (z' ≠ -1 → z < z') ∧ ∀ (k : Nat) (m : Int) (r : List UInt8), z = (k : Int) → -10000000 ≤ m → m ≤ 10000000 → t.data.toList.drop k = Lib.itoa m ++ 32 :: r → n = m ∧ ∃ j : Nat, z' = (j : Int) ∧ t.data.toList.drop j = r) ∧ Below w.heap.size w w' := by
  rcases hz with rfl | ⟨j, rfl, hj⟩
  · refine (specNumNo t w).mono ?_
    rintro e w' ⟨rfl, hb⟩
    exact ⟨⟨0, -1, rfl, ⟨by omega, by omega⟩, Or.inl rfl, fun h => absurd rfl h, fun k m r hk => by omega⟩, hb⟩
  · refine (specNumAt t j w hj ht).mono ?_
    rintro e w' ⟨⟨n, z', rfl, h1, h2, h3, h4⟩, hb⟩
    refine ⟨⟨n, z', rfl, h1, h2, h3, fun k m r hk m0 m1 hm => ?_⟩, hb⟩
    have : j = k := by omega
    subst this
    exact h4 m r m0 m1 hm

end Go.Proofs.YtfblpbihpmhgjaaDoor
