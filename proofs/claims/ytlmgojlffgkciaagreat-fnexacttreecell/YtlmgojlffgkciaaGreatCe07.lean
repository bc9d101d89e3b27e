/-
  What the document's l4Mask and the program's maskOf answer of every list of entries, by walks of their Go text.
-/
import Derived.Deep.LoopGhost
import Derived.Test.YtlmgojlffgkciaaGreatCe00
import Derived.Test.YtlmgojlffgkciaaGreatCe01
import Derived.Test.YtlmgojlffgkciaaGreatCe04
namespace Go.Proofs.YtlmgojlffgkciaaGreat
open Go.RowKit
set_option maxHeartbeats 800000 in
theorem specMaskL (a : Option Addr) (len cap : Nat) (L : List EntD) (w : World) (hL : EntsAt w a len cap L) :
    Calls Tryz.prog 141 #[.slice a len cap] w fun e w' => e = .returned (.int .i64 ((maskL L : Nat) : Int)) ∧ Below w.heap.size w w' := by
  have HLEN : Hid (L.length = len) := hL.length
  have hbl := hL.room
  have hbc := hL.big
  unfold maxLen at hbc
  have HL : Hid (EntsAt w a len cap L) := hL
  clear hL
  go_enter Tryz.func141, Tryz.ntmps141
  go_wp2
  go_loopw [3, 4] (fun m i wr => ∃ k p : Nat, k ≤ len ∧ i = .int .i64 k ∧ m = .int .i64 p ∧ p < 65536 ∧ Below w.heap.size w wr ∧ p = maskL (L.take k)) (fun _ i _ => len - (intOf i).toNat)
  case atStart => exact ⟨0, 0, Nat.zero_le _, rfl, rfl, by omega, Below.refl _ _, rfl⟩
  case round =>
    obtain ⟨k, p, hk, rfl, rfl, hp, hb, hm⟩ := hrel
    have HM : Hid (p = maskL (L.take k)) := hm
    clear hm
    by_cases hlt : k < len
    · obtain ⟨b, off, rfl, hbb⟩ := HL.out.form (by omega)
      obtain ⟨s, q, d, t, n, hg, hlw, g0, g1, g2, g3, g4⟩ := HL.out.ent hb hbb k hlt
      have HG : Hid (L[k]? = some (s, q, d, t, n)) := hg
      have hs := hlw.1
      simp only at hs
      clear hg hlw
      obtain ⟨z, hz⟩ : ∃ z, z = maskK s := ⟨_, rfl⟩
      have hz1 : z < 65536 := by rw [hz]; exact maskK_lt s
      have CK : Hid (∀ w, Calls Tryz.prog 177 #[.string s] w fun e w' => e = .returned (.int .i64 (z : Int)) ∧ w' = w) := by rw [hz]; exact fun w => specMask s w hs
      have CO : Hid (∀ w, Calls Tryz.prog 176 #[.int .i64 p, .int .i64 z] w fun e w' => e = .returned (.int .i64 ((p ||| z : Nat) : Int)) ∧ w' = w) := fun w => specOr p z w hp hz1
      have HN : Hid (p ||| z = maskL (L.take (k + 1))) := by
        show p ||| z = maskL (L.take (k + 1))
        rw [maskL_snoc HG.out, ← HM.out, hz]
      clear hz
      go_wp2_with (first | (go_at_call 177; refine (CK.out _).mono ?_; rintro e w1 ⟨rfl, rfl⟩) | (go_at_call 176; refine (CO.out _).mono ?_; rintro e w2 ⟨rfl, rfl⟩))
      go_roundw
      case rel => exact ⟨k + 1, p ||| z, by omega, by go_num, rfl, or_small hp hz1, hb, HN.out⟩
      case measure => simp [intOf]; omega
    · go_wp2
      go_ret
      refine ⟨ret_int ?_, hb⟩
      have := HM.out
      rw [List.take_of_length_le (by rw [HLEN.out]; omega)] at this
      rw [this]
set_option maxHeartbeats 800000 in
theorem implMaskL (a : Option Addr) (len cap : Nat) (L : List EntD) (w : World) (hL : EntsAt w a len cap L) :
    Calls Tryz.prog 146 #[.slice a len cap] w fun e w' => e = .returned (.int .i64 ((maskL L : Nat) : Int)) ∧ Below w.heap.size w w' := by
  have HLEN : Hid (L.length = len) := hL.length
  have hbl := hL.room
  have hbc := hL.big
  unfold maxLen at hbc
  have HL : Hid (EntsAt w a len cap L) := hL
  clear hL
  go_enter Tryz.func146, Tryz.ntmps146
  go_wp2
  go_loopw [3, 8] (fun m i wr => ∃ k p : Nat, k ≤ len ∧ i = .int .i64 k ∧ m = .int .i64 p ∧ p < 65536 ∧ Below w.heap.size w wr ∧ p = maskL (L.take k)) (fun _ i _ => len - (intOf i).toNat)
  case atStart => exact ⟨0, 0, Nat.zero_le _, rfl, rfl, by omega, Below.refl _ _, rfl⟩
  case round =>
    obtain ⟨k, p, hk, rfl, rfl, hp, hb, hm⟩ := hrel
    have HM : Hid (p = maskL (L.take k)) := hm
    clear hm
    by_cases hlt : k < len
    · obtain ⟨b, off, rfl, hbb⟩ := HL.out.form (by omega)
      obtain ⟨s, q, d, t, n, hg, hlw, g0, g1, g2, g3, g4⟩ := HL.out.ent hb hbb k hlt
      have HG : Hid (L[k]? = some (s, q, d, t, n)) := hg
      have hs := hlw.1
      simp only at hs
      clear hg hlw
      obtain ⟨z, hz⟩ : ∃ z, z = maskK s := ⟨_, rfl⟩
      have hz1 : z < 65536 := by rw [hz]; exact maskK_lt s
      have CK : Hid (∀ w, Calls Tryz.prog 184 #[.string s] w fun e w' => e = .returned (.int .i64 (z : Int)) ∧ Below w.heap.size w w') := by rw [hz]; exact fun w => implMask s w hs
      have HN : Hid (p ||| z = maskL (L.take (k + 1))) := by
        show p ||| z = maskL (L.take (k + 1))
        rw [maskL_snoc HG.out, ← HM.out, hz]
      have hor := bits_or p z hp hz1
      clear hz
      go_wp2_with (go_at_call 184; refine (CK.out _).mono ?_; rintro e w1 ⟨rfl, hb1⟩; obtain ⟨hc1, hf1⟩ := bcell hb1)
      go_roundw
      case rel => exact ⟨k + 1, p ||| z, by omega, by go_num, by rw [← hor], or_small hp hz1, (hb.alloc (by have := hb.size; omega) _).trans (hb1.mono (by have := hb.size; simp; omega)), HN.out⟩
      case measure => simp [intOf]; omega
    · go_wp2
      go_ret
      refine ⟨ret_int ?_, hb⟩
      have := HM.out
      rw [List.take_of_length_le (by rw [HLEN.out]; omega)] at this
      rw [this]
end Go.Proofs.YtlmgojlffgkciaaGreat
