/-
  A digit; and what the document's l9Dec writes of a number of one digit, by a walk of its Go text.
-/
import Derived.Test.YtinefencifbjnaaDoorBase
import Derived.Lib.SlBytesRow
namespace Go.Proofs.YtinefencifbjnaaDoor
open Go.RowKit

/-- A digit's byte. -/
def dig (n : Int) : UInt8 := (48 + n.toNat).toUInt8
theorem dig_nat (n : Int) (h0 : 0 ≤ n) (h1 : n ≤ 9) : ((dig n).toNat : Int) = 48 + n := by
  unfold dig
  simp [Nat.toUInt8]
  omega
theorem dig_ofNat (n : Int) (h0 : 0 ≤ n) (h1 : n ≤ 9) : UInt8.ofNat (48 + n).toNat = dig n := by
  unfold dig
  congr 1
  omega

theorem app_nil (s : ByteArray) : s ++ ⟨#[]⟩ = s := by
  apply ByteArray.ext
  simp

set_option maxHeartbeats 2000000 in
set_option maxRecDepth 100000 in
theorem dec_small (n : Int) (w : World) (h0 : 0 ≤ n) (h1 : n ≤ 9) :
    Calls Tryd.prog 26 #[.int .i64 n] w fun e w' => e = .returned (.string ⟨#[dig n]⟩) ∧ Below w.heap.size w w' := by
  go_enter Tryd.func26, Tryd.ntmps26
  go_wp2
  go_loop [0, 3] (fun i o => i = .int .i64 n ∧ o = .string ⟨#[]⟩) (fun _ _ => 0)
  case atStart => exact ⟨rfl, rfl⟩
  case round =>
    obtain ⟨rfl, rfl⟩ := hrel
    have hcv : ∀ w : World, (convert 22 9 (.slice (some ⟨w.heap.size, 0, none⟩) 1 1)).run Tryd.prog (w.alloc (.cells #[.int .u8 (48 + n)] 5)) = .ok (.string ⟨#[dig n]⟩) (w.alloc (.cells #[.int .u8 (48 + n)] 5)) := by
      intro w
      exact Lib.run_convert_whole _ 22 5 9 Tryd.underlying22 Tryd.underlying5 Tryd.underlying9 w.heap.size 0 ⟨#[dig n]⟩ (fun i hi => by
        have hi0 : i = 0 := by
          have : i < 1 := hi
          omega
        subst hi0
        show _ = some (Value.int .u8 ((dig n).toNat : Int))
        rw [dig_nat n h0 h1]
        simp) 1
    go_wp2
    go_ret
    exact ⟨by simp [app_nil], (Below.refl _ _).alloc (Nat.le_refl _) _⟩

end Go.Proofs.YtinefencifbjnaaDoor
