/-
  What the program's RunMay answers at every run and every text, by a walk of its Go text.
-/
import Derived.Test.YtkhnknpacdmikaaRunOk
namespace Go.Proofs.Ytkhnknpacdmikaa
open Go.RowKit

theorem inB_eq {L : List EntD} {key : ByteArray} {f l : EntD} (h0 : L[0]? = some f) (hl : L[L.length - 1]? = some l) : inB L key = (!Op.bytesLess key.toList f.1.toList && (!Op.bytesLess l.1.toList key.toList && decide (maskL L ||| maskK key = maskL L))) := by
  unfold inB
  simp only [h0, hl, ByteArray.toList_eq]

set_option maxRecDepth 100000 in
set_option maxHeartbeats 1000000 in
theorem implMay (a : Option Addr) (len cap : Nat) (L : List EntD) (m : Int) (key : ByteArray) (w : World) (hL : EntsAt w a len cap L) (hkey : key.size ≤ maxLen) :
    Calls Try.prog 16 #[.agg #[.slice a len cap, .int .i64 m], .string key] w fun e w' => e = .returned (.bool (mayB L m key)) ∧ Below w.heap.size w w' := by
  have HLEN : Hid (L.length = len) := hL.length
  have hbl := hL.room
  have hbc := hL.big
  unfold maxLen at hbc
  have kA : Below w.heap.size w (w.alloc (.cells #[.slice a len cap, .int .i64 m] 26)) := (Below.refl _ _).alloc (Nat.le_refl _) _
  go_enter Try.func16, Try.ntmps16
  go_wp2_with fail
  refine (implRunOk _ _ _ L _ _ (hL.keep kA)).mono ?_
  rintro e w1 ⟨rfl, hb1⟩
  have x0 : w1.cell? ⟨w.heap.size, 0, none⟩ = some (.slice a len cap) := cell_later hb1 (by simp)
  have x1 : w1.cell? ⟨w.heap.size, 1, none⟩ = some (.int .i64 m) := cell_later hb1 (by simp)
  have hB1 : Below w.heap.size w w1 := kA.trans (hb1.mono (by simp))
  have hz1 : w.heap.size < w1.heap.size := World.block_lt_of_cell? _ _ x0
  clear hb1 kA
  cases hr : runB L m with
  | false =>
    have HR : Hid (mayB L m key = false) := by show mayB L m key = false; simp [mayB, hr]
    clear hr hL
    go_wp2
    go_ret
    exact ⟨ret_bool HR.out.symm, hB1⟩
  | true =>
    obtain ⟨p1, p2, p3, p4⟩ := runB_parts hr
    have h1 : 1 ≤ len := by have := HLEN.out; omega
    obtain ⟨b, off, rfl, hbb⟩ := hL.form h1
    obtain ⟨s, q, d, t, n, hg, hlw, g0, g1, g2, g3, g4⟩ := hL.ent hB1 hbb 0 (by omega)
    obtain ⟨s', q', d', t', n', hg', hlw', g0', g1', g2', g3', g4'⟩ := hL.ent hB1 hbb (len - 1) (by omega)
    have HR : Hid (mayB L m key = (!Op.bytesLess key.toList s.toList && (!Op.bytesLess s'.toList key.toList && decide (maskL L ||| maskK key = maskL L)))) := by
      show mayB L m key = _
      unfold mayB
      rw [hr, inB_eq hg (by rw [HLEN.out]; exact hg')]
      rfl
    simp only [Nat.zero_mul, Nat.add_zero] at g0
    have hlen1 : (0 : Int) ≤ (len : Int) - 1 := by omega
    have hlen2 : (len : Int) - 1 < (len : Int) := by omega
    have hlen0 : (0 : Int) < (len : Int) := by omega
    have hlt : ((len : Int) - 1).toNat = len - 1 := by omega
    obtain ⟨M, hM⟩ : ∃ M, M = maskL L := ⟨_, rfl⟩
    obtain ⟨z, hz⟩ : ∃ z, z = maskK key := ⟨_, rfl⟩
    have hM1 : M < 65536 := by rw [hM]; exact maskL_lt L
    have hz1' : z < 65536 := by rw [hz]; exact maskK_lt key
    have hmM : m = (M : Int) := by rw [hM]; exact p4
    subst hmM
    rw [← hM, ← hz] at HR
    have CK : Hid (∀ w, Calls Try.prog 56 #[.string key] w fun e w' => e = .returned (.int .i64 (z : Int)) ∧ Below w.heap.size w w') := by rw [hz]; exact fun w => implMask key w hkey
    clear hg hlw hg' hlw' hr hL p3 p4 p1 p2 hM hz
    cases c1 : Op.bytesLess key.toList s.toList with
    | true =>
      rw [c1] at HR
      go_wp2
      go_ret
      exact ⟨ret_bool (by rw [HR.out]; rfl), hB1⟩
    | false =>
      cases c2 : Op.bytesLess s'.toList key.toList with
      | true =>
        rw [c1, c2] at HR
        have e1 : Op.bytesLess key.toList s'.toList = false := bless_asymm _ _ c2
        have e2 : (key.toList == s'.toList) = false := by rw [beq_eq_false_iff_ne]; intro e; rw [e, bless_self] at c2; cases c2
        go_wp2
        go_ret
        exact ⟨ret_bool (by rw [HR.out]; rfl), hB1⟩
      | false =>
        rw [c1, c2] at HR
        have HF : Hid ((bits .and .i64 (M : Int) (z : Int) == (z : Int)) = decide (M ||| z = M)) := by
          show (bits .and .i64 (M : Int) (z : Int) == (z : Int)) = decide (M ||| z = M)
          rw [bits_and M z hM1 hz1', or_and, Bool.eq_iff_iff]
          simp only [beq_iff_eq, decide_eq_true_eq]
          omega
        by_cases e0 : key.toList = s'.toList
        · have e1 : Op.bytesLess key.toList s'.toList = false := by rw [e0]; exact bless_self _
          have e2 : (key.toList == s'.toList) = true := by rw [beq_iff_eq]; exact e0
          clear e0
          go_wp2_with (go_at_call 56; refine (CK.out _).mono ?_; rintro e w2 ⟨rfl, hb2⟩; obtain ⟨hc2, hf2⟩ := bcell hb2)
          go_ret
          exact ⟨ret_bool (by rw [HR.out]; exact HF.out), hB1.trans (hb2.mono hB1.size)⟩
        · have e1 : Op.bytesLess key.toList s'.toList = true := (bless_total _ _ e0).resolve_right (by rw [c2]; simp)
          clear e0
          go_wp2_with (go_at_call 56; refine (CK.out _).mono ?_; rintro e w2 ⟨rfl, hb2⟩; obtain ⟨hc2, hf2⟩ := bcell hb2)
          go_ret
          exact ⟨ret_bool (by rw [HR.out]; exact HF.out), hB1.trans (hb2.mono hB1.size)⟩
end Go.Proofs.Ytkhnknpacdmikaa
