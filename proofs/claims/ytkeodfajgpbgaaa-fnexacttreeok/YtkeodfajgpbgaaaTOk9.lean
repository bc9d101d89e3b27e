/-
  Pieces of the program's TreeOk: whether a run of a level is wrong, by walks of their Go text.
-/
import Derived.Test.YtkeodfajgpbgaaaTOk8
namespace Go.Proofs.Ytkeodfajgpbgaaa
open Go.RowKit

/-- A run of them is wrong. -/
def badB (B : List RunD) : Bool := B.any (fun r => !runB r.1 r.2)
theorem bad_yes {B : List RunD} {i : Nat} {r : RunD} (h : B[i]? = some r) (hr : runB r.1 r.2 = false) : badB B = true := by
  unfold badB
  rw [List.any_eq_true]
  exact ⟨r, List.mem_of_getElem? h, by rw [hr]; rfl⟩
theorem bad_no {B : List RunD} {k : Nat} (h : ∀ j r, j < k → B[j]? = some r → runB r.1 r.2 = true) (hk : B.length ≤ k) : badB B = false := by
  unfold badB
  rw [List.any_eq_false]
  intro r hr
  obtain ⟨j, hj, e⟩ := List.getElem_of_mem hr
  rw [h j r (by omega) (by rw [List.getElem?_eq_getElem hj, e])]
  simp
theorem bad_all {B : List RunD} (h : badB B = false) : ∀ r ∈ B, runB r.1 r.2 = true := by
  intro r hr
  unfold badB at h
  rw [List.any_eq_false] at h
  simpa using h r hr

set_option maxRecDepth 100000 in
set_option maxHeartbeats 4000000 in
theorem indexBad (lo : Nat) (a : Option Addr) (n c : Nat) (B : List RunD) (w : World) (h : RunsIn lo w a n c B) :
    Calls Try.prog 256 #[.slice a n c, .func (.func 233) #[] #[]] w fun e w' => (∃ z : Int, e = .returned (.int .i64 z) ∧ decide (0 ≤ z) = badB B) ∧ Below w.heap.size w w' := by
  have HLN : Hid (B.length = n) := h.length
  have hr := h.room
  have hbg := h.big
  unfold maxLen at hbg
  have H : Hid (RunsIn lo w a n c B) := h
  clear h
  go_enter Try.func256, Try.ntmps256
  go_wp2
  go_loopw [8] (fun iv wr => ∃ i : Nat, i ≤ n ∧ iv = .int .i64 i ∧ Below w.heap.size w wr ∧ (∀ j r, j < i → B[j]? = some r → runB r.1 r.2 = true)) (fun iv _ => n - (intOf iv).toNat)
  case atStart => exact ⟨0, Nat.zero_le _, rfl, Below.refl _ _, fun j r hj => absurd hj (Nat.not_lt_zero _)⟩
  case round =>
    obtain ⟨i, hi, rfl, hb, hw⟩ := hrel
    have HW : Hid (∀ j r, j < i → B[j]? = some r → runB r.1 r.2 = true) := hw
    have HB : Hid (Below w.heap.size w wr) := hb
    clear hw
    by_cases hin : i < n
    · have hinI : (i : Int) < (n : Int) := by omega
      obtain ⟨b, off, rfl, hbb⟩ := H.out.form (by omega)
      obtain ⟨L, m, s, ns, cs, hg, _, g0, g1, hE⟩ := H.out.run hb i hin
      have HG : Hid (B[i]? = some (L, m)) := hg
      have HE : Hid (EntsAt wr s ns cs L) := hE.1
      have zb := Nat.lt_of_lt_of_le hbb hb.size
      clear hg hb hE
      obtain ⟨O, hO⟩ : ∃ O, O = runB L m := ⟨_, rfl⟩
      go_wp2_with fail
      refine (implNoRun m s ns cs L wr HE.out).mono ?_
      rw [← hO]
      rintro e w1 ⟨rfl, hb1⟩
      have K1 : Hid (Below w.heap.size w w1) := HB.out.trans (hb1.mono HB.out.size)
      clear hb1
      cases hOv : O with
      | false =>
        have HN : Hid (badB B = true) := bad_yes HG.out (by show runB L m = false; rw [← hO, hOv])
        go_wp2
        go_ret
        exact ⟨⟨(i : Int), rfl, by rw [HN.out]; simp⟩, K1.out⟩
      | true =>
        have HN : Hid (∀ j r, j < i + 1 → B[j]? = some r → runB r.1 r.2 = true) := by
          intro j r hj hr
          by_cases e : j = i
          · subst e; rw [HG.out] at hr; cases hr; show runB L m = true; rw [← hO, hOv]
          · exact HW.out j r (by omega) hr
        go_wp2
        go_roundw
        case rel => exact ⟨i + 1, by omega, by go_num, K1.out, HN.out⟩
        case measure => simp [intOf]; omega
    · have hinI : ¬ (i : Int) < (n : Int) := by omega
      have HC : Hid (badB B = false) := bad_no HW.out (by rw [HLN.out]; omega)
      go_wp2
      go_ret
      exact ⟨⟨-1, rfl, by rw [HC.out]; rfl⟩, HB.out⟩

set_option maxHeartbeats 1000000 in
theorem containsBad (lo : Nat) (a : Option Addr) (n c : Nat) (B : List RunD) (w : World) (h : RunsIn lo w a n c B) :
    Calls Try.prog 232 #[.slice a n c, .func (.func 233) #[] #[]] w fun e w' => e = .returned (.bool (badB B)) ∧ Below w.heap.size w w' := by
  go_enter Try.func232, Try.ntmps232
  go_wp2_with fail
  refine (indexBad lo a n c B w h).mono ?_
  rintro e w1 ⟨⟨z, rfl, hz⟩, hb1⟩
  have HZ : Hid (decide (0 ≤ z) = badB B) := hz
  clear hz
  go_wp2
  go_ret
  exact ⟨ret_bool HZ.out, hb1⟩

theorem implMost0 (w : World) : Calls Try.prog 231 #[.int .i64 0] w fun e w' => e = .returned (.int .i64 4) ∧ w' = w := by
  go_enter Try.func231, Try.ntmps231
  go_wp2
  go_ret
  exact ⟨rfl, rfl⟩
theorem implMost1 (k : Nat) (w : World) (h : 1 ≤ k) : Calls Try.prog 231 #[.int .i64 (k : Int)] w fun e w' => e = .returned (.int .i64 8) ∧ w' = w := by
  have h1 : ¬ (k : Int) = 0 := by omega
  have h2 : ¬ k = 0 := by omega
  go_enter Try.func231, Try.ntmps231
  go_wp2
  go_ret
  exact ⟨rfl, rfl⟩
end Go.Proofs.Ytkeodfajgpbgaaa
