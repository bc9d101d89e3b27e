/-
  The document's l4Apart: whether a time that is kept lies between two entries; by a walk of its Go text.
-/
import Derived.Test.YthhiahjafhkbbaaInts
namespace Go.Proofs.Ythhiahjafhkbbaa
open Go.RowKit

/-- A time that is kept lies between two. -/
def apartB (S : List Int) (o n : Int) : Bool := S.any (fun s => decide (o ≤ s) && decide (s < n))
theorem apart_take {S : List Int} {o n : Int} {k : Nat} {s : Int} (h : S[k]? = some s) : apartB (S.take (k + 1)) o n = (apartB (S.take k) o n || (decide (o ≤ s) && decide (s < n))) := by
  simp [apartB, List.take_add_one, h, List.any_append]
theorem apart_more {S : List Int} {o n : Int} {k : Nat} (h : apartB (S.take k) o n = true) : apartB S o n = true := by
  unfold apartB at *
  rw [List.any_eq_true] at *
  obtain ⟨x, hx, hp⟩ := h
  exact ⟨x, List.mem_of_mem_take hx, hp⟩

set_option maxRecDepth 100000 in
set_option maxHeartbeats 1000000 in
theorem specApart (lo : Nat) (a : Option Addr) (n c : Nat) (S : List Int) (o p : Int) (w : World) (h : IntsIn lo w a n c S) :
    Calls Try.prog 71 #[.slice a n c, .int .i64 o, .int .i64 p] w fun e w' => e = .returned (.bool (apartB S o p)) ∧ Below w.heap.size w w' := by
  have hr := h.room
  have hbg := h.big
  unfold maxLen at hbg
  have H : Hid (IntsIn lo w a n c S) := h
  clear h
  go_enter Try.func71, Try.ntmps71
  go_wp2
  go_loopw [7] (fun i wr => ∃ k : Nat, k ≤ n ∧ i = .int .i64 k ∧ apartB (S.take k) o p = false ∧ Below w.heap.size w wr) (fun i _ => n - (intOf i).toNat)
  case atStart => exact ⟨0, Nat.zero_le _, rfl, rfl, Below.refl _ _⟩
  case round =>
    obtain ⟨k, hk, rfl, hno, hb⟩ := hrel
    have HNO : Hid (apartB (S.take k) o p = false) := hno
    clear hno
    by_cases hlt : k < n
    · have hltI : (k : Int) < (n : Int) := by omega
      obtain ⟨b, off, rfl, hbb⟩ := H.out.form (by omega)
      obtain ⟨s, hs, hw, hc⟩ := H.out.num hb k hlt
      have HS : Hid (S[k]? = some s) := hs
      have hbr : b < wr.heap.size := Nat.lt_of_lt_of_le hbb hb.size
      clear hs hw
      by_cases h1 : o ≤ s
      · by_cases h2 : s < p
        · go_wp2
          go_ret
          have hyes : apartB S o p = true := apart_more (k := k + 1) (by rw [apart_take HS.out]; simp [h1, h2])
          exact ⟨by rw [hyes]; rfl, hb⟩
        · go_wp2
          go_roundw
          case rel => exact ⟨k + 1, by omega, by go_num, by rw [apart_take HS.out, HNO.out]; simp [h2], hb⟩
          case measure => simp [intOf]; omega
      · go_wp2
        go_roundw
        case rel => exact ⟨k + 1, by omega, by go_num, by rw [apart_take HS.out, HNO.out]; simp [h1], hb⟩
        case measure => simp [intOf]; omega
    · have hltI : ¬ (k : Int) < (n : Int) := by omega
      have hall : S.take k = S := List.take_of_length_le (by have := H.out.length; omega)
      have HALL : Hid (apartB S o p = false) := by have := HNO.out; rw [hall] at this; exact this
      clear hall
      go_wp2
      go_ret
      exact ⟨by rw [HALL.out]; rfl, hb⟩
end Go.Proofs.Ythhiahjafhkbbaa
