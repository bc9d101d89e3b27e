/-
  The document's MergeAll: entries of several lists put in order one by one, by a walk of its Go text.
  What the program's and the document's KeyOk answer at every text, by walks of their Go text.
-/
import Derived.Test.YtkdalacclafihaaBn05
import Derived.Test.YtkdalacclafihaaBn08
import Derived.Test.YtkdalacclafihaaProg
import Derived.Test.YtkdalacclafihaaBn00
import Derived.Test.YtkdalacclafihaaBn01
import Derived.WalkKit
import Derived.WalkSpells
import Derived.WalkLawsBesides
namespace Go.Proofs.Ytkdalacclafihaa
open Go.RowKit

theorem sort_snoc (L : List EntD) (e : EntD) : sortE (L ++ [e]) = putE (sortE L) e := by simp [sortE]
theorem sort_len : ∀ L : List EntD, (sortE L).length = L.length := by
  intro L
  have : ∀ (R A : List EntD), (R.foldl putE A).length = A.length + R.length := by
    intro R
    induction R with
    | nil => intro A; rfl
    | cons x R ih => intro A; rw [List.foldl_cons, ih, putE_len, List.length_cons]; omega
  have h := this L []
  simpa [sortE] using h
theorem flat_snoc {P : List (List EntD)} {i : Nat} {L : List EntD} (_h : P[i]? = some L) (k : Nat) {e : EntD} (he : L[k]? = some e) : (P.take i).flatten ++ L.take (k + 1) = ((P.take i).flatten ++ L.take k) ++ [e] := by
  rw [List.take_add_one, he]
  simp
theorem flat_next {P : List (List EntD)} {i : Nat} {L : List EntD} (h : P[i]? = some L) : (P.take (i + 1)).flatten = (P.take i).flatten ++ L.take L.length := by
  rw [List.take_add_one, h]
  simp
theorem flat_le {P : List (List EntD)} {i k : Nat} {L : List EntD} (h : P[i]? = some L) : ((P.take i).flatten ++ L.take k).length ≤ P.flatten.length := by
  have h1 : P.flatten = (P.take (i + 1)).flatten ++ (P.drop (i + 1)).flatten := by rw [← List.flatten_append, List.take_append_drop]
  rw [h1, flat_next h, List.length_append, List.length_append, List.length_append, List.length_take, List.length_take]
  omega

set_option maxRecDepth 100000 in
set_option maxHeartbeats 4000000 in
theorem specMerge (a : Option Addr) (n c : Nat) (P : List (List EntD)) (w : World) (hP : PartsAt w a n c P) (hsum : P.flatten.length ≤ 1048576) :
    Calls Try.prog 8 #[.slice a n c] w fun e w' => ∃ g cg, e = .returned (.slice (some ⟨g, 0, none⟩) P.flatten.length cg) ∧ OwnE w' w.heap.size g P.flatten.length cg (sortE P.flatten) ∧ Below w.heap.size w w' := by
  have HP : Hid (PartsAt w a n c P) := hP
  have HLN : Hid (P.length = n) := hP.length
  have HSU : Hid (P.flatten.length ≤ 1048576) := hsum
  have hroom := hP.room
  have hbig := hP.big
  unfold maxLen at hbig
  clear hP hsum
  obtain ⟨N, hN⟩ : ∃ N, P.flatten.length = N := ⟨_, rfl⟩
  have HN : Hid (P.flatten.length = N) := hN
  rw [hN]
  clear hN
  go_enter Try.func8, Try.ntmps8
  go_wp2
  go_loopw [3, 4] (fun ov iv wr => ∃ (i g cg m : Nat) (F : List EntD), i ≤ n ∧ iv = .int .i64 i ∧ F = (P.take i).flatten ∧ F.length = m ∧ ov = .slice (some ⟨g, 0, none⟩) m cg ∧ OwnE wr w.heap.size g m cg (sortE F) ∧ Below w.heap.size w wr) (fun _ iv _ => n - (intOf iv).toNat)
  case atStart => exact ⟨0, w.heap.size, 0, 0, [], Nat.zero_le _, rfl, by simp, rfl, rfl, own_empty w _ (Nat.le_refl _), (Below.refl _ _).alloc (Nat.le_refl _) _⟩
  case round =>
    obtain ⟨i, g, cg, m, F, hi, rfl, hF, hFm, rfl, hO, hb⟩ := hrel
    have HF : Hid (F = (P.take i).flatten) := hF
    have HFM : Hid (F.length = m) := hFm
    have HO : Hid (OwnE wr w.heap.size g m cg (sortE F)) := hO
    have HB : Hid (Below w.heap.size w wr) := hb
    clear hF hFm hO hb
    by_cases hlt : i < n
    · have hltI : (i : Int) < (n : Int) := by omega
      obtain ⟨b, off, rfl, hbb⟩ := HP.out.form (by omega)
      obtain ⟨L, hL⟩ : ∃ L, P[i]? = some L := ⟨_, List.getElem?_eq_getElem (by rw [HLN.out]; exact hlt)⟩
      have HL : Hid (P[i]? = some L) := hL
      clear hL
      go_wp2
      go_loopw [3, 5] (fun ov kv wq => ∃ (k g cg m : Nat) (G : List EntD), k ≤ L.length ∧ kv = .int .i64 k ∧ G = F ++ L.take k ∧ G.length = m ∧ ov = .slice (some ⟨g, 0, none⟩) m cg ∧ OwnE wq w.heap.size g m cg (sortE G) ∧ Below w.heap.size w wq) (fun _ kv _ => L.length - (intOf kv).toNat)
      case atStart => exact ⟨0, g, cg, m, F, Nat.zero_le _, rfl, by simp, HFM.out, rfl, HO.out, HB.out⟩
      case round =>
        clear HO HB HFM
        obtain ⟨k, g, cg, m, G, hk, rfl, hG, hGm, rfl, hO, hb⟩ := hrel
        obtain ⟨L', s, len, cap, hL', c0, hE⟩ := HP.out.list hb i hlt
        rw [HL.out] at hL'
        cases hL'
        have HG : Hid (G = F ++ L.take k) := hG
        have HGM : Hid (G.length = m) := hGm
        have HO : Hid (OwnE wr w.heap.size g m cg (sortE G)) := hO
        have HB : Hid (Below w.heap.size w wr) := hb
        have hLl := hE.length
        have HLL : Hid (L.length = len) := hLl
        have zb : b < wr.heap.size := Nat.lt_of_lt_of_le hbb hb.size
        have hlc := hE.room
        have hcb := hE.big
        unfold maxLen at hcb
        have hm : m ≤ 1048576 := by
          have h1 := flat_le (k := k) HL.out
          rw [← HF.out, ← hG] at h1
          have h2 := HSU.out
          omega
        rw [hLl] at hk
        clear hG hGm hO hb hLl
        by_cases hkl : k < len
        · have hklI : (k : Int) < (len : Int) := by omega
          obtain ⟨bs, os, rfl, zs⟩ := hE.form (by omega)
          obtain ⟨es, eq, ed, et, en, hx, hw, e0, e1, e2, e3, e4⟩ := hE.ent (Below.refl _ wr) zs k hkl
          have HX : Hid (L[k]? = some (es, eq, ed, et, en)) := hx
          have CP := specPut g m cg (sortE G) es et eq ed en wr HO.out.entsAt HO.out.lt.2 hm hw
          clear hx hw hE
          go_wp2_with fail
          refine CP.mono ?_
          rintro e w2 ⟨g2, c2, rfl, hO2, hb2⟩
          have HO2 : Hid (OwnE w2 w.heap.size g2 (m + 1) c2 (putE (sortE G) (es, eq, ed, et, en))) := hO2.mono HB.out.size
          have HB2 : Hid (Below w.heap.size w w2) := HB.out.trans (hb2.mono HB.out.size)
          clear hO2 hb2 CP HO HB
          go_wp2
          go_roundw
          case rel =>
            refine ⟨k + 1, g2, c2, m + 1, F ++ L.take (k + 1), by have := HLL.out; omega, by go_num, rfl, ?_, rfl, ?_, HB2.out⟩
            · rw [HF.out, flat_snoc HL.out k HX.out, ← HF.out, ← HG.out, List.length_append, HGM.out]
              rfl
            · rw [HF.out, flat_snoc HL.out k HX.out, ← HF.out, ← HG.out, sort_snoc]
              exact HO2.out
          case measure => have := HLL.out; simp [intOf]; omega
        · have hklI : ¬ (k : Int) < (len : Int) := by omega
          have HKL : Hid (k = L.length) := by have := HLL.out; show k = _; omega
          have wi : IntKind.i64.wrap ((i : Int) + 1) = ((i + 1 : Nat) : Int) := by rw [IntWalk.i64_left]; unfold wrap64; omega
          go_wp2
          go_roundw
          case rel =>
            refine ⟨i + 1, g, cg, m, G, by omega, by first | rfl | go_num, ?_, HGM.out, rfl, HO.out, HB.out⟩
            rw [flat_next HL.out, HG.out, HF.out, HKL.out]
          case measure => simp [intOf]; omega
    · have hin : i = n := by omega
      have hltI : ¬ (i : Int) < (n : Int) := by omega
      have HFA : Hid (F = P.flatten) := by show F = _; rw [HF.out, List.take_of_length_le (by rw [HLN.out]; omega)]
      clear hin
      go_wp2
      go_ret
      have h1 := HFM.out
      have h2 := HO.out
      rw [HFA.out] at h1 h2
      obtain rfl : N = m := by have := HN.out; omega
      exact ⟨g, cg, rfl, h2, HB.out⟩
end Go.Proofs.Ytkdalacclafihaa

namespace Go.Proofs.Ytkdalacclafihaa
open Go.RowKit

set_option maxHeartbeats 400000 in
theorem specKey (s : ByteArray) (w : World) (hs : s.size ≤ maxLen) :
    Calls Try.prog 101 #[.string s] w fun e w' => e = .returned (.bool (keyB s)) ∧ w' = w := by
  unfold maxLen at hs
  go_enter Try.func101, Try.ntmps101
  go_wp2
  go_loop [3] (fun i => ∃ k : Nat, k ≤ s.size ∧ i = .int .i64 k ∧ (s.data.toList.take k).all keyC = true) (fun i => s.size - (intOf i).toNat)
  case atStart => exact ⟨0, Nat.zero_le _, rfl, rfl⟩
  case round =>
    obtain ⟨k, hk, rfl, hall⟩ := hrel
    have HA : Hid ((s.data.toList.take k).all keyC = true) := hall
    clear hall
    by_cases hlt : k < s.size
    · cases hb : keyC s[k] with
      | true =>
        have h3 := keyC_true hb
        have HB : Hid (keyC s[k] = true) := hb
        clear hb
        rcases h3 with ⟨h31, h32⟩ | ⟨h31, h32⟩
        · go_wp2
          go_round
          case rel => exact ⟨k + 1, by omega, by go_num, key_take_snoc s k hlt HA.out HB.out⟩
          case measure => simp [intOf]; omega
        · go_wp2
          go_round
          case rel => exact ⟨k + 1, by omega, by go_num, key_take_snoc s k hlt HA.out HB.out⟩
          case measure => simp [intOf]; omega
      | false =>
        have h3 := keyC_false hb
        have HB : Hid (keyC s[k] = false) := hb
        clear hb
        rcases h3 with h3 | ⟨h3, h4⟩ | h3
        · go_wp2
          go_ret
          exact ⟨ret_bool (key_false_of s k hlt HB.out).symm, rfl⟩
        · go_wp2
          go_ret
          exact ⟨ret_bool (key_false_of s k hlt HB.out).symm, rfl⟩
        · go_wp2
          go_ret
          exact ⟨ret_bool (key_false_of s k hlt HB.out).symm, rfl⟩
    · go_wp2
      all_goals
        go_ret
        refine ⟨ret_bool ?_, rfl⟩
        rw [keyB_of_all s k (by omega) HA.out]
        first | exact sz8_yes _ (by omega) | exact sz8_no _ (by omega)

set_option maxHeartbeats 400000 in
theorem isKey_yes (b : Int) (w : World) (h : (97 ≤ b ∧ b ≤ 122) ∨ (47 ≤ b ∧ b ≤ 57)) : Calls Try.prog 105 #[.int .u8 b] w fun e w' => e = .returned (.bool true) ∧ w' = w := by
  rcases h with ⟨h1, h2⟩ | ⟨h1, h2⟩
  · go_enter Try.func105, Try.ntmps105
    go_wp2
    all_goals
      go_ret
      exact ⟨rfl, rfl⟩
  · by_cases h3 : b = 47
    · subst h3
      go_enter Try.func105, Try.ntmps105
      go_wp2
      all_goals
        go_ret
        exact ⟨rfl, rfl⟩
    · have h4 : 48 ≤ b := by omega
      go_enter Try.func105, Try.ntmps105
      go_wp2
      all_goals
        go_ret
        exact ⟨rfl, rfl⟩

set_option maxHeartbeats 400000 in
theorem isKey_no (b : Int) (w : World) (h : b < 47 ∨ (57 < b ∧ b < 97) ∨ 122 < b) : Calls Try.prog 105 #[.int .u8 b] w fun e w' => e = .returned (.bool false) ∧ w' = w := by
  have hd : (b == 47) = false := by rw [beq_eq_false_iff_ne]; omega
  have hd' : ¬ b = 47 := by omega
  rcases h with h | ⟨h, h'⟩ | h
  · go_enter Try.func105, Try.ntmps105
    go_wp2
    all_goals
      go_ret
      exact ⟨ret_bool (by first | rfl | (simp; omega) | simp), rfl⟩
  · go_enter Try.func105, Try.ntmps105
    go_wp2
    all_goals
      go_ret
      exact ⟨ret_bool (by first | rfl | (simp; omega) | simp), rfl⟩
  · go_enter Try.func105, Try.ntmps105
    go_wp2
    all_goals
      go_ret
      exact ⟨ret_bool (by first | rfl | (simp; omega) | simp), rfl⟩

set_option maxHeartbeats 400000 in
theorem implKey (s : ByteArray) (w : World) (hs : s.size ≤ maxLen) :
    Calls Try.prog 99 #[.string s] w fun e w' => e = .returned (.bool (keyB s)) ∧ w' = w := by
  unfold maxLen at hs
  by_cases h1 : s.size < 1
  · go_enter Try.func99, Try.ntmps99
    go_wp2
    go_ret
    exact ⟨ret_bool (keyB_small s h1).symm, rfl⟩
  by_cases h4 : 8 < s.size
  · go_enter Try.func99, Try.ntmps99
    go_wp2
    go_ret
    exact ⟨ret_bool (keyB_big s h4).symm, rfl⟩
  go_enter Try.func99, Try.ntmps99
  go_wp2
  go_loop [14] (fun i => ∃ k : Nat, k ≤ s.size ∧ i = .int .i64 k ∧ (s.data.toList.take k).all keyC = true) (fun i => s.size - (intOf i).toNat)
  case atStart => exact ⟨0, Nat.zero_le _, rfl, rfl⟩
  case round =>
    obtain ⟨k, hk, rfl, hall⟩ := hrel
    have HA : Hid ((s.data.toList.take k).all keyC = true) := hall
    clear hall
    by_cases hlt : k < s.size
    · cases hb : keyC s[k] with
      | true =>
        have h3 := keyC_true hb
        have H3 : Hid ((97 ≤ ((s[k]).toNat : Int) ∧ ((s[k]).toNat : Int) ≤ 122) ∨ (47 ≤ ((s[k]).toNat : Int) ∧ ((s[k]).toNat : Int) ≤ 57)) := h3
        have HB : Hid (keyC s[k] = true) := hb
        clear hb h3
        go_wp2_with (go_at_call 105; refine (isKey_yes _ _ H3.out).mono ?_; rintro e w' ⟨rfl, rfl⟩)
        go_round
        case rel => exact ⟨k + 1, by omega, by go_num, key_take_snoc s k hlt HA.out HB.out⟩
        case measure => simp [intOf]; omega
      | false =>
        have h3 := keyC_false hb
        have H3 : Hid (((s[k]).toNat : Int) < 47 ∨ (57 < ((s[k]).toNat : Int) ∧ ((s[k]).toNat : Int) < 97) ∨ 122 < ((s[k]).toNat : Int)) := h3
        have HB : Hid (keyC s[k] = false) := hb
        clear hb h3
        go_wp2_with (go_at_call 105; refine (isKey_no _ _ H3.out).mono ?_; rintro e w' ⟨rfl, rfl⟩)
        go_ret
        exact ⟨ret_bool (key_false_of s k hlt HB.out).symm, rfl⟩
    · go_wp2
      go_ret
      exact ⟨ret_bool (keyB_all s (by omega) (by omega) k (by omega) HA.out).symm, rfl⟩

end Go.Proofs.Ytkdalacclafihaa
