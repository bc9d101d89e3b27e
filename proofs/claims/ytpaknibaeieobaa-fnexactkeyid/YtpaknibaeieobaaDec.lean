/-
  A digit; and what the document's l9Dec writes of a number of one digit, by a walk of its Go text.
-/
import Derived.Test.YtpaknibaeieobaaLeg
import Derived.Lib.SlBytesRow
namespace Go.Proofs.Ytpaknibaeieobaa
open Go.RowKit

/-- A digit's byte. -/
def dig (n : Int) : UInt8 := (48 + n.toNat).toUInt8
theorem dig_nat (n : Int) (h0 : 0 ≤ n) (h1 : n ≤ 9) : ((dig n).toNat : Int) = 48 + n := by
  unfold dig
  simp [Nat.toUInt8]
  omega
theorem dig_ofNat (n : Int) (h0 : 0 ≤ n) (h1 : n ≤ 9) : UInt8.ofNat (48 + n).toNat = dig n := by
  unfold dig
  congr 1
  omega

theorem app_nil (s : ByteArray) : s ++ ⟨#[]⟩ = s := by
  apply ByteArray.ext
  simp

set_option maxHeartbeats 2000000 in
set_option maxRecDepth 100000 in
theorem dec_small (n : Int) (w : World) (h0 : 0 ≤ n) (h1 : n ≤ 9) :
    Calls Try.prog 82 #[.int .i64 n] w fun e w' => e = .returned (.string ⟨#[dig n]⟩) ∧ Below w.heap.size w w' := by
  go_enter Try.func82, Try.ntmps82
  go_wp2
  go_loop [0, 3] (fun i o => i = .int .i64 n ∧ o = .string ⟨#[]⟩) (fun _ _ => 0)
  case atStart => exact ⟨rfl, rfl⟩
  case round =>
    obtain ⟨rfl, rfl⟩ := hrel
    have hcv : ∀ w : World, (convert 65 9 (.slice (some ⟨w.heap.size, 0, none⟩) 1 1)).run Try.prog (w.alloc (.cells #[.int .u8 (48 + n)] 5)) = .ok (.string ⟨#[dig n]⟩) (w.alloc (.cells #[.int .u8 (48 + n)] 5)) := by
      intro w
      exact Lib.run_convert_whole _ 65 5 9 Try.underlying65 Try.underlying5 Try.underlying9 w.heap.size 0 ⟨#[dig n]⟩ (fun i hi => by
        have hi0 : i = 0 := by
          have : i < 1 := hi
          omega
        subst hi0
        show _ = some (Value.int .u8 ((dig n).toNat : Int))
        rw [dig_nat n h0 h1]
        simp) 1
    go_wp2
    go_ret
    exact ⟨by simp [app_nil], (Below.refl _ _).alloc (Nat.le_refl _) _⟩

theorem two_app (a b : UInt8) : (⟨#[a]⟩ : ByteArray) ++ ⟨#[b]⟩ = ⟨#[a, b]⟩ := rfl
theorem four_app (a b c d : UInt8) : (⟨#[a, b]⟩ : ByteArray) ++ ⟨#[c, d]⟩ = ⟨#[a, b, c, d]⟩ := rfl

set_option maxHeartbeats 2000000 in
set_option maxRecDepth 100000 in
theorem two_small (n : Int) (w : World) (h0 : 0 ≤ n) (h1 : n ≤ 99) :
    Calls Try.prog 61 #[.int .i64 n] w fun e w' => e = .returned (.string ⟨#[dig (n / 10), dig (n % 10)]⟩) ∧ Below w.heap.size w w' := by
  go_enter Try.func61, Try.ntmps61
  go_wp2_with fail
  refine (dec_small (n / 10) _ (by omega) (by omega)).mono ?_
  rintro e w1 ⟨rfl, hb1⟩
  go_wp2_with fail
  refine (dec_small (n % 10) _ (by omega) (by omega)).mono ?_
  rintro e w2 ⟨rfl, hb2⟩
  go_wp2
  go_ret
  exact ⟨rfl, hb1.trans (hb2.mono hb1.size)⟩

end Go.Proofs.Ytpaknibaeieobaa
