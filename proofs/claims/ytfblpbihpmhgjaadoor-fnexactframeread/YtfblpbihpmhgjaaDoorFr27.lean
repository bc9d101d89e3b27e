/-
  What the document's l9Dec writes of every number: its numeral; by a walk of its Go text.
-/
import Derived.Test.YtfblpbihpmhgjaaDoorFr05
import Derived.Lib.SlBytesRow
import Derived.Lib.ItoaMem
import Derived.Lib.ItoaLen
namespace Go.Proofs.YtfblpbihpmhgjaaDoor
open Go.RowKit

/-- A number's numeral, as a text. -/
def decT (n : Int) : ByteArray := ⟨(Lib.itoa n).toArray⟩
theorem decT_size (n : Int) (h0 : -9223372036854775808 ≤ n) (h1 : n ≤ 9223372036854775807) : (decT n).size ≤ 21 := by
  have := Lib.itoa_length_le n h0 h1
  show (Lib.itoa n).toArray.size ≤ 21
  simpa using this
theorem decT_min : decT (-9223372036854775808) = ⟨#[45, 57, 50, 50, 51, 51, 55, 50, 48, 51, 54, 56, 53, 52, 55, 55, 53, 56, 48, 56]⟩ := by
  unfold decT
  simp [Lib.itoa, Lib.decDigits]
theorem decT_neg (u : Nat) (h : 1 ≤ u) : decT (-(u : Int)) = ⟨#[45]⟩ ++ decT u := by
  unfold decT
  rw [Lib.itoa_neg u h, Lib.itoa_nonneg]
  apply ByteArray.ext
  apply Array.toList_inj.1
  simp
def digB (d : Nat) : UInt8 := UInt8.ofNat (48 + d)
theorem digB_nat (d : Nat) (h : d < 10) : ((digB d).toNat : Int) = 48 + d := by
  unfold digB
  simp
  omega
theorem retD_str {a b : ByteArray} (h : a = b) : Ending.returned (.string a) = .returned (.string b) := by rw [h]
theorem digs_cons {m : Nat} (h : ¬ m < 10) (l : List UInt8) : Lib.decDigits (m / 10) ++ (digB (m % 10) :: l) = Lib.decDigits m ++ l := by
  unfold digB
  rw [Lib.decDigits.eq_1 m, dif_neg h]
  simp
theorem digs_last {m : Nat} (h : m < 10) (l : List UInt8) : (digB m :: l) = Lib.decDigits m ++ l := by
  unfold digB
  rw [Lib.decDigits_one h]
  rfl
theorem one_app (c : UInt8) (l : List UInt8) : (⟨#[c]⟩ : ByteArray) ++ ⟨l.toArray⟩ = ⟨(c :: l).toArray⟩ := by
  apply ByteArray.ext
  apply Array.toList_inj.1
  simp

set_option maxHeartbeats 2000000 in
set_option maxRecDepth 100000 in
theorem dec_pos (u : Nat) (w : World) (hu : (u : Int) ≤ 9223372036854775807) :
    Calls Tryd.prog 48 #[.int .i64 u] w fun e w' => e = .returned (.string (decT u)) ∧ Below w.heap.size w w' := by
  have hcv : ∀ (w : World) (d : Nat), d < 10 → (convert 49 9 (.slice (some ⟨w.heap.size, 0, none⟩) 1 1)).run Tryd.prog (w.alloc (.cells #[.int .u8 (48 + (d : Int))] 5)) = .ok (.string ⟨#[digB d]⟩) (w.alloc (.cells #[.int .u8 (48 + (d : Int))] 5)) := by
    intro w d hd
    exact Lib.run_convert_whole _ 49 5 9 Tryd.underlying49 Tryd.underlying5 Tryd.underlying9 w.heap.size 0 ⟨#[digB d]⟩ (fun i hi => by
      have hi0 : i = 0 := by
        have : i < 1 := hi
        omega
      subst hi0
      show _ = some (Value.int .u8 ((digB d).toNat : Int))
      rw [digB_nat d hd]
      simp) 1
  go_enter Tryd.func48, Tryd.ntmps48
  go_wp2
  go_loopw [0, 3] (fun i o wr => ∃ (m : Nat) (l : List UInt8), i = .int .i64 m ∧ o = .string ⟨l.toArray⟩ ∧ m ≤ u ∧ Lib.decDigits m ++ l = Lib.decDigits u ∧ Below w.heap.size w wr) (fun i _ _ => (intOf i).toNat)
  case atStart => exact ⟨u, [], rfl, rfl, Nat.le_refl _, by simp, Below.refl _ _⟩
  case round =>
    obtain ⟨m, l, rfl, rfl, hm, hl, hb⟩ := hrel
    have hlen : l.length ≤ 21 := by
      have h1 := congrArg List.length hl
      have h2 := Lib.itoa_length_le u (by omega) hu
      rw [Lib.itoa_nonneg] at h2
      simp at h1
      omega
    have hsz : (⟨l.toArray⟩ : ByteArray).size = l.length := by show l.toArray.size = _; simp
    have HL : Hid (Lib.decDigits m ++ l = Lib.decDigits u) := hl
    have HSZ : Hid ((⟨l.toArray⟩ : ByteArray).size = l.length) := hsz
    have g1 : ¬ 9223372036854775807 < 1 + (⟨l.toArray⟩ : ByteArray).size := by rw [hsz]; omega
    clear hl hsz
    by_cases h9 : (9 : Int) < m
    · have h1 := hcv wr (m % 10) (by omega)
      rw [show ((m % 10 : Nat) : Int) = (m : Int) % 10 by omega] at h1
      go_wp2
      go_roundw
      case rel => exact ⟨m / 10, digB (m % 10) :: l, by simp, by rw [one_app], by omega, (digs_cons (by omega) l).trans HL.out, hb.alloc hb.size _⟩
      case measure => simp [intOf]; omega
    · have h1 := hcv wr m (by omega)
      go_wp2
      go_ret
      have hfin : (⟨(digB m :: l).toArray⟩ : ByteArray) = decT u := by
        rw [digs_last (by omega) l, HL.out]
        unfold decT
        rw [Lib.itoa_nonneg]
      exact ⟨retD_str hfin, hb.alloc hb.size _⟩

set_option maxHeartbeats 2000000 in
set_option maxRecDepth 100000 in
/-- What the document writes of a number is its numeral. -/
theorem dec_any (n : Int) (w : World) (h0 : -9223372036854775808 ≤ n) (h1 : n ≤ 9223372036854775807) :
    Calls Tryd.prog 48 #[.int .i64 n] w fun e w' => e = .returned (.string (decT n)) ∧ Below w.heap.size w w' := by
  by_cases hp : 0 ≤ n
  · obtain ⟨u, rfl⟩ : ∃ u : Nat, n = u := ⟨n.toNat, by omega⟩
    exact dec_pos u w h1
  · by_cases hm : n < -9223372036854775807
    · obtain rfl : n = -9223372036854775808 := by omega
      go_enter Tryd.func48, Tryd.ntmps48
      go_wp2
      go_ret
      exact ⟨retD_str decT_min.symm, Below.refl _ _⟩
    · obtain ⟨u, rfl⟩ : ∃ u : Nat, n = -(u : Int) := ⟨(-n).toNat, by omega⟩
      have hz := decT_size u (by omega) (by omega)
      have g1 : ¬ 9223372036854775807 < 1 + (decT u).size := by omega
      have hd : -(u : Int) < 0 := by omega
      have hu0 : ¬ (u : Int) = 0 := by omega
      clear hp
      go_enter Tryd.func48, Tryd.ntmps48
      go_wp2_with fail
      refine (dec_pos u _ (by omega)).mono ?_
      rintro e w1 ⟨rfl, hb1⟩
      go_wp2
      go_ret
      exact ⟨retD_str (decT_neg u (by omega)).symm, hb1⟩

end Go.Proofs.YtfblpbihpmhgjaaDoor
