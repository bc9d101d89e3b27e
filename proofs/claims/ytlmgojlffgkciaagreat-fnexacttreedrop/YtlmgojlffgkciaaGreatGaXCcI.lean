/-
  The library's Grow, Index, Contains and Concat at numbers, by walks of their Go text.
-/
import Derived.Lib.AppendZerosOnto
import Derived.Lib.AppendZeros
import Derived.Test.YtlmgojlffgkciaaGreatGa04
import Derived.Test.YtlmgojlffgkciaaGreatGa05
namespace Go.Proofs.YtlmgojlffgkciaaGreat
open Go.RowKit
set_option maxRecDepth 100000
set_option maxHeartbeats 2000000
theorem growInts (n : Nat) (w : World) (h1 : 1 ≤ n) (h2 : n ≤ 1048576) :
    Calls Tryz.prog 122 #[.slice none 0 0, .int .i64 n] w fun e w' => ∃ c, e = .returned (.slice (some ⟨w.heap.size, 0, none⟩) 0 c) ∧ w'.ownsRow w.heap.size 3 1 (.slice (some ⟨w.heap.size, 0, none⟩) 0 c) 0 [] ∧ Below w.heap.size w w' := by
  obtain ⟨i0, hi, hz0, hz1, hz2⟩ := info_parts Tryz.infoInt
  have hold : (Builtin.firstCells i0.size 0 (.slice none 0 0)).run Tryz.prog w.drew = .ok ([] : List Value).toArray w.drew := run_firstCells_none w.drew i0.size 0 0 0
  obtain ⟨G, hG⟩ : ∃ G, G = grownCap w n 0 3 := ⟨_, rfl⟩
  obtain ⟨W, hW⟩ : ∃ W, W = w.drew.alloc (.cells (([] : List Value).toArray ++ Builtin.zeroCells (Value.int .i64 0).cells n ++ Builtin.zeroCells (Value.int .i64 0).cells (G - n)) 3) := ⟨_, rfl⟩
  have hrz : ∀ ty, (Builtin.append_ #[24, 3] ty #[.slice none 0 0, .int .i64 n]).run Tryz.prog w = .ok (.slice (some ⟨w.heap.size, 0, none⟩) n G) W := fun ty => by
    have h := Lib.run_append_grow_zeros w 24 3 ty 3 i0 _ .i64 .i64 Tryz.underlying24 Tryz.underlying3 hi hz0 none 0 0 [] hold n h1 (by rw [hz1]; omega) (by omega) (by omega) (by rw [hz2]; omega) (by unfold Builtin.nextslicecap; rw [if_pos (by omega), hz2]; omega)
    simp only [Nat.zero_add] at h
    rw [hW, hG]
    exact h
  have hGn : n ≤ G := by rw [hG]; exact grownCap_ge w _ _ _
  have hGm : G ≤ maxLen := by rw [hG]; exact grownCap_le_maxLen w n 0 3 (by unfold maxLen; omega)
  have HO : Hid (W.ownsRow w.heap.size 3 1 (.slice (some ⟨w.heap.size, 0, none⟩) 0 G) 0 []) := by
    rw [hW]
    refine ⟨rfl, Or.inr ⟨w.heap.size, G, _, rfl, Nat.le_refl _, (by show (w.drew.heap.push _)[w.drew.heap.size]? = _; exact Array.getElem?_push_size), Nat.zero_le _, hGm, ?_, ?_⟩⟩
    · simp [Builtin.zeroCells, Value.cells]
      omega
    · simp
  have HB : Hid (Below w.heap.size w W) := by rw [hW]; exact ((Below.refl _ w).drew).alloc (Nat.le_refl _) _
  unfold maxLen at hGm
  clear hold hG hW
  go_enter Tryz.func122, Tryz.ntmps122
  go_wp2_with (at_builtin; refine Lib.wpList_append_run _ rfl _ _ _ _ rfl _ _ rfl rfl _ _ (hrz _) ?_)
  all_goals (go_ret; exact ⟨G, rfl, HO.out, HB.out⟩)
theorem growNone (w : World) :
    Calls Tryz.prog 122 #[.slice none 0 0, .int .i64 0] w fun e w' => e = .returned (.slice none 0 0) ∧ w' = w := by
  go_enter Tryz.func122, Tryz.ntmps122
  go_wp2
  go_ret
  exact ⟨rfl, rfl⟩
theorem idx_at {S : List Int} {q : Int} {k : Nat} (h : S[k]? = some q) (hn : ∀ j, j < k → ¬ S[j]? = some q) : S.idxOf q = k := by
  induction S generalizing k with
  | nil => simp at h
  | cons a S ih =>
    cases k with
    | zero => simp at h; subst h; simp
    | succ k =>
      have h0 := hn 0 (by omega)
      simp at h0
      rw [List.idxOf_cons]
      rw [show (a == q) = false by simpa using h0, cond_false]
      have := ih (k := k) (by simpa using h) (fun j hj => by have := hn (j + 1) (by omega); simpa using this)
      omega
theorem indexInts (lo : Nat) (a : Option Addr) (n c : Nat) (S : List Int) (q : Int) (w : World) (hS : IntsIn lo w a n c S) (hn : n ≤ 1048576) :
    Calls Tryz.prog 85 #[.slice a n c, .int .i64 q] w fun e w' => e = .returned (.int .i64 (if q ∈ S then ((S.idxOf q : Nat) : Int) else -1)) ∧ w' = w := by
  have HS : Hid (IntsIn lo w a n c S) := hS
  have HL : Hid (S.length = n) := hS.length
  clear hS
  obtain ⟨R, hR⟩ : ∃ R : Int, R = (if q ∈ S then ((S.idxOf q : Nat) : Int) else -1) := ⟨_, rfl⟩
  have HRD : Hid (R = (if q ∈ S then ((S.idxOf q : Nat) : Int) else -1)) := hR
  rw [← hR]
  clear hR
  go_enter Tryz.func85, Tryz.ntmps85
  go_wp2
  go_loopw [8] (fun iv wr => ∃ (k : Nat), k ≤ n ∧ iv = .int .i64 k ∧ (∀ j, j < k → ¬ S[j]? = some q) ∧ wr = w) (fun iv _ => n - (intOf iv).toNat)
  case atStart => exact ⟨0, Nat.zero_le _, rfl, fun j hj => absurd hj (Nat.not_lt_zero _), rfl⟩
  case round =>
    obtain ⟨k, hk, rfl, hno, rfl⟩ := hrel
    have HNO : Hid (∀ j, j < k → ¬ S[j]? = some q) := hno
    clear hno
    by_cases hlt : k < n
    · have hltI : (k : Int) < (n : Int) := by omega
      obtain ⟨b, off, rfl, hbb⟩ := HS.out.form (by omega)
      obtain ⟨z, hz, _, g0⟩ := HS.out.num (Below.refl _ wr) k hlt
      have HZ : Hid (S[k]? = some z) := hz
      clear hz
      by_cases hq : q = z
      · subst hq
        have HR : Hid (R = (k : Int)) := by
          show _ = _
          rw [HRD.out, if_pos (List.mem_of_getElem? HZ.out), idx_at HZ.out HNO.out]
        go_wp2
        go_ret
        exact ⟨by have e := HR.out; first | (rw [e]; rfl) | (subst e; rfl) | simp [e], by first | rfl | trivial⟩
      · have hqb : (q == z) = false := by simpa using hq
        go_wp2
        go_roundw
        case rel =>
          refine ⟨k + 1, by omega, by go_num, fun j hj => ?_, by first | rfl | trivial⟩
          by_cases e : j = k
          · subst e
            rw [HZ.out]
            intro h
            exact hq (Option.some.inj h).symm
          · exact HNO.out j (by omega)
        case measure => simp [intOf]; omega
    · have hltI : ¬ (k : Int) < (n : Int) := by omega
      have HR : Hid (R = -1) := by
        show _ = _
        rw [HRD.out, if_neg]
        intro hm
        obtain ⟨j, hj⟩ := List.getElem?_of_mem hm
        have hjl := (List.getElem?_eq_some_iff.1 hj).1
        rw [HL.out] at hjl
        exact HNO.out j (by omega) hj
      go_wp2
      go_ret
      exact ⟨by have e := HR.out; first | (rw [e]; rfl) | (subst e; rfl) | simp [e], by first | rfl | trivial⟩
theorem containsInts (lo : Nat) (a : Option Addr) (n c : Nat) (S : List Int) (q : Int) (w : World) (hS : IntsIn lo w a n c S) (hn : n ≤ 1048576) :
    Calls Tryz.prog 80 #[.slice a n c, .int .i64 q] w fun e w' => e = .returned (.bool (decide (q ∈ S))) ∧ w' = w := by
  have CI := indexInts lo a n c S q w hS hn
  by_cases hm : q ∈ S
  · obtain ⟨k, hk⟩ : ∃ k : Nat, k = S.idxOf q := ⟨_, rfl⟩
    rw [if_pos hm, ← hk] at CI
    have hge : (k : Int) ≥ 0 := by omega
    have hd : decide (q ∈ S) = true := decide_eq_true hm
    rw [hd]
    clear hS hd hk hm
    go_enter Tryz.func80, Tryz.ntmps80
    go_wp2_with fail
    refine CI.mono ?_
    rintro e w1 ⟨rfl, rfl⟩
    go_wp2
    go_ret
    exact ⟨by simp, rfl⟩
  · rw [if_neg hm] at CI
    have hd : decide (q ∈ S) = false := decide_eq_false hm
    rw [hd]
    clear hS hd hm
    go_enter Tryz.func80, Tryz.ntmps80
    go_wp2_with fail
    refine CI.mono ?_
    rintro e w1 ⟨rfl, rfl⟩
    go_wp2
    go_ret
    exact ⟨by simp, rfl⟩
end Go.Proofs.YtlmgojlffgkciaaGreat
