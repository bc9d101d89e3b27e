/-
  The texts that the laws mark memory with, by a walk of their Go text.
-/
import Derived.Test.YtcabinakcmpkeaaDoorProg
import Derived.Test.YtcabinakcmpkeaaDoorPlain
import Derived.Test.YtcabinakcmpkeaaDoorBase
import Derived.Lib.SlBytesRow
import Derived.Deep.LoopGhost
import Derived.WalkKit
import Derived.WalkSpells
import Derived.WalkLawsBesides
namespace Go.Proofs.YtcabinakcmpkeaaDoor
open Go.RowKit

/-- The digits of a number ahead of others. -/
def digs : Nat → Nat → List UInt8 → List UInt8
  | 0, _, acc => acc
  | f + 1, p, acc => if p = 0 then acc else digs f (p / 10) (UInt8.ofNat (48 + p % 10) :: acc)
theorem digs_zero (f : Nat) (acc : List UInt8) : digs f 0 acc = acc := by cases f <;> simp [digs]
/-- The text that a number marks with. -/
def markT (k : Nat) : ByteArray := ⟨#[109]⟩ ++ ⟨(digs k k []).toArray⟩

set_option maxRecDepth 100000 in
set_option maxHeartbeats 1000000 in
theorem markText_any (k : Nat) (w : World) (h1 : 1 ≤ k) (h2 : k ≤ 1000000000) :
    Calls Tryd.prog 78 #[.int .i64 k] w fun e w' => e = .returned (.string (markT k)) ∧ Below w.heap.size w w' := by
  have h1' : ¬ (k : Int) ≤ 0 := by omega
  go_enter Tryd.func78, Tryd.ntmps78
  go_wp2
  go_loopw [0, 3] (fun pv ov wr => ∃ (f p : Nat) (o : ByteArray), pv = .int .i64 p ∧ ov = .string o ∧ p ≤ f ∧ o.size + p ≤ k ∧ digs f p o.data.toList = digs k k [] ∧ Below w.heap.size w wr) (fun pv _ _ => (intOf pv).toNat)
  case atStart => exact ⟨k, k, ⟨#[]⟩, rfl, rfl, Nat.le_refl _, by show 0 + k ≤ k; omega, rfl, Below.refl _ _⟩
  case round =>
    obtain ⟨f, p, o, rfl, rfl, hpf, hok, hd, hb⟩ := hrel
    have HD : Hid (digs f p o.data.toList = digs k k []) := hd
    clear hd
    by_cases hp : p = 0
    · subst hp
      have hm : markT k = ⟨#[109]⟩ ++ o := by
        unfold markT
        rw [← HD.out, digs_zero]
      have HM : Hid (markT k = ⟨#[109]⟩ ++ o) := hm
      clear hm
      have ho : o.size ≤ 1000000000 := by omega
      go_wp2
      go_ret
      exact ⟨by rw [HM.out]; rfl, hb⟩
    · have hp0 : (0 : Int) < (p : Int) := by omega
      have ho : o.size ≤ 1000000000 := by omega
      have hpk : (p : Int) ≤ 1000000000 := by omega
      obtain ⟨f', rfl⟩ : ∃ f', f = f' + 1 := ⟨f - 1, by omega⟩
      obtain ⟨c, hc⟩ : ∃ c : UInt8, c = UInt8.ofNat (48 + p % 10) := ⟨_, rfl⟩
      have hcn : (c.toNat : Int) = 48 + (p : Int) % 10 := by rw [hc]; simp; omega
      have hcv : ∀ w : World, (convert 49 9 (.slice (some ⟨w.heap.size, 0, none⟩) 1 1)).run Tryd.prog (w.alloc (.cells #[.int .u8 (48 + (p : Int) % 10)] 5)) = .ok (.string ⟨#[c]⟩) (w.alloc (.cells #[.int .u8 (48 + (p : Int) % 10)] 5)) := by
        intro w
        exact Lib.run_convert_whole _ 49 5 9 Tryd.underlying49 Tryd.underlying5 Tryd.underlying9 w.heap.size 0 ⟨#[c]⟩ (fun i hi => by
          have hi0 : i = 0 := by
            have : i < 1 := hi
            omega
          subst hi0
          show _ = some (Value.int .u8 (c.toNat : Int))
          rw [hcn]
          simp) 1
      have HN : Hid (digs f' (p / 10) ((⟨#[c]⟩ ++ o : ByteArray)).data.toList = digs k k []) := by
        show digs f' (p / 10) ((⟨#[c]⟩ ++ o : ByteArray)).data.toList = digs k k []
        rw [← HD.out]
        simp [digs, hp, hc]
      have hsz : (⟨#[c]⟩ ++ o : ByteArray).size = 1 + o.size := by rw [ByteArray.size_append]; rfl
      have HSZ : Hid ((⟨#[c]⟩ ++ o : ByteArray).size + p / 10 ≤ k) := by show (⟨#[c]⟩ ++ o : ByteArray).size + p / 10 ≤ k; rw [hsz]; omega
      clear hc hcn hsz
      go_wp2
      go_roundw
      case rel => exact ⟨f', p / 10, ⟨#[c]⟩ ++ o, by go_num, rfl, by omega, HSZ.out, HN.out, hb.alloc hb.size _⟩
      case measure => simp [intOf]; omega
end Go.Proofs.YtcabinakcmpkeaaDoor
