/-
  The document's word at a place of a text, by a walk of its Go text.
  Whether a text stands at the head of another, by a walk of the library's Go text.
  What the program's and the document's KeyOk answer at every text, by walks of their Go text.
-/
import Derived.Test.YtfblpbihpmhgjaaDoorFr18
import Derived.Test.YtfblpbihpmhgjaaDoorProg
import Derived.Test.YtfblpbihpmhgjaaDoorFr00
import Derived.Test.YtfblpbihpmhgjaaDoorFr03
import Derived.WalkKit
import Derived.WalkSpells
import Derived.WalkLawsBesides
namespace Go.Proofs.YtfblpbihpmhgjaaDoor
open Go.RowKit

theorem ext_toList (t : ByteArray) (k j : Nat) : (t.extract k j).data.toList = (t.data.toList.drop k).take (j - k) := by rw [ByteArray.data_extract, Array.toList_extract, List.extract_eq_take_drop]
theorem List.drop_drop_sub {l : List UInt8} {k j : Nat} (h : k ≤ j) : (l.drop k).drop (j - k) = l.drop j := by rw [List.drop_drop]; congr 1; omega
set_option maxHeartbeats 1000000 in
set_option maxRecDepth 100000 in
theorem specWord (t : ByteArray) (k : Nat) (w : World) (hk : k ≤ t.size) (ht : t.size ≤ 1048576) :
    Calls Tryd.prog 131 #[.string t, .int .i64 (k : Int)] w fun e w' => ((∃ j, k ≤ j ∧ j < t.size ∧ t.data.toList.drop k = (t.extract k j).data.toList ++ 32 :: t.data.toList.drop (j + 1) ∧ (32 : UInt8) ∉ (t.extract k j).data.toList ∧ e = .returned (.tuple #[.string (t.extract k j), .int .i64 ((j : Int) + 1)])) ∨ ((32 : UInt8) ∉ t.data.toList.drop k ∧ e = .returned (.tuple #[.string ⟨#[]⟩, .int .i64 (-1)]))) ∧ Below w.heap.size w w' := by
  go_enter Tryd.func131, Tryd.ntmps131
  go_wp2
  go_loopw [6] (fun i wr => ∃ j : Nat, k ≤ j ∧ j ≤ t.size ∧ i = .int .i64 (j : Int) ∧ (32 : UInt8) ∉ (t.extract k j).data.toList ∧ Below w.heap.size w wr) (fun i _ => t.size - (intOf i).toNat)
  case atStart => exact ⟨k, Nat.le_refl _, hk, rfl, by rw [ext_toList]; simp, Below.refl _ _⟩
  case round =>
    obtain ⟨j, hkj, hjt, rfl, hno, hb⟩ := hrel
    have HNO : Hid ((32 : UInt8) ∉ (t.extract k j).data.toList) := hno
    clear hno
    by_cases hlt : j < t.size
    · have hltI : (j : Int) < (t.size : Int) := by omega
      obtain ⟨x, hx⟩ : ∃ x, x = t[j] := ⟨_, rfl⟩
      by_cases hxc : x = 32
      · have hq : ((t[j]).toNat : Int) = 32 := by rw [← hx, hxc]; rfl
        have hqb : (((t[j]).toNat : Int) == 32) = true := by simpa using hq
        have HR : Hid (t.data.toList.drop k = (t.extract k j).data.toList ++ 32 :: t.data.toList.drop (j + 1)) := by
          show _ = _
          rw [ext_toList, ← hxc, hx, ← drop_at t j hlt, ← List.drop_drop_sub hkj]
          exact (List.take_append_drop _ _).symm
        have hkI : (k : Int) ≤ (j : Int) := by omega
        have hjI : (j : Int) ≤ (t.size : Int) := by omega
        clear hx hxc hq
        go_wp2
        exact bodyPost_ret (v := .tuple #[.string (t.extract k j), .int .i64 ((j : Int) + 1)]) (by simp [results, Tryd.results131, go_sem]) rfl ⟨Or.inl ⟨j, hkj, hlt, HR.out, HNO.out, rfl⟩, hb⟩
      · have hq : ¬ ((t[j]).toNat : Int) = 32 := by
          rw [← hx]
          intro e
          apply hxc
          apply UInt8.toNat_inj.1
          show x.toNat = 32
          omega
        have hqb : (((t[j]).toNat : Int) == 32) = false := by rw [beq_eq_false_iff_ne]; exact hq
        have HN2 : Hid ((32 : UInt8) ∉ (t.extract k (j + 1)).data.toList) := by
          show _ ∉ _
          have := HNO.out
          rw [ext_toList] at this ⊢
          rw [show j + 1 - k = (j - k) + 1 by omega, List.take_add_one, List.mem_append]
          rintro (h | h)
          · exact this h
          · rw [List.getElem?_drop, show k + (j - k) = j by omega] at h
            have hg : t.data.toList[j]? = some x := by
              rw [hx, Array.getElem?_toList]
              exact Array.getElem?_eq_getElem hlt
            rw [hg] at h
            simp at h
            exact hxc h.symm
        clear hx hxc hq
        go_wp2
        go_roundw
        case rel => exact ⟨j + 1, by omega, by omega, by go_num, HN2.out, hb⟩
        case measure => simp [intOf]; omega
    · have hje : j = t.size := by omega
      have HN3 : Hid ((32 : UInt8) ∉ t.data.toList.drop k) := by
        have := HNO.out
        rw [ext_toList, hje, List.take_of_length_le (by rw [List.length_drop, bytes_len]; omega)] at this
        exact this
      clear hje
      go_wp2
      exact bodyPost_ret (v := .tuple #[.string ⟨#[]⟩, .int .i64 (-1)]) (by simp [results, Tryd.results131, go_sem]) rfl ⟨Or.inr ⟨HN3.out, rfl⟩, hb⟩

end Go.Proofs.YtfblpbihpmhgjaaDoor

namespace Go.Proofs.YtfblpbihpmhgjaaDoor
open Go.RowKit

theorem head_iff {s p : ByteArray} : ((s.extract 0 p.size).toList == p.toList) = true ↔ p.data.toList <+: s.data.toList := by
  have e1 : (s.extract 0 p.size).data.toList = s.data.toList.take p.size := by rw [ext_toList]; simp
  rw [beq_iff_eq, ByteArray.toList_eq, ByteArray.toList_eq, e1]
  constructor
  · intro e
    rw [← e]
    exact List.take_prefix _ _
  · rintro ⟨r, hr⟩
    rw [← hr]
    have : p.data.toList.length = p.size := bytes_len p
    rw [List.take_append_of_le_length (by omega), List.take_of_length_le (by omega)]
theorem head_no {s p : ByteArray} (h : s.size < p.size) : ¬ p.data.toList <+: s.data.toList := fun hp => by
  have := hp.length_le
  rw [bytes_len, bytes_len] at this
  omega
def HeadE (s p : ByteArray) (e : Ending) : Prop := ∃ b, e = .returned (.bool b) ∧ (b = true ↔ p.data.toList <+: s.data.toList)

set_option maxHeartbeats 1000000 in
set_option maxRecDepth 100000 in
theorem hasPrefix_in (s p : ByteArray) (w : World) :
    Calls Tryd.prog 135 #[.string s, .string p] w fun e w' => HeadE s p e ∧ Below w.heap.size w w' := by
  by_cases hlt : s.size < p.size
  · have hI : ¬ (p.size : Int) ≤ (s.size : Int) := by omega
    have hd : decide ((p.size : Int) ≤ (s.size : Int)) = false := decide_eq_false hI
    go_enter Tryd.func135, Tryd.ntmps135
    go_wp2
    go_ret
    exact ⟨⟨false, rfl, Iff.intro (fun h => by simp at h) (fun h => absurd h (head_no hlt))⟩, Below.refl _ _⟩
  · have hI : (p.size : Int) ≤ (s.size : Int) := by omega
    go_enter Tryd.func135, Tryd.ntmps135
    go_wp2
    go_ret
    exact ⟨⟨_, rfl, head_iff⟩, Below.refl _ _⟩

set_option maxHeartbeats 400000 in
theorem hasPrefix_any (s p : ByteArray) (w : World) :
    Calls Tryd.prog 106 #[.string s, .string p] w fun e w' => HeadE s p e ∧ Below w.heap.size w w' := by
  go_enter Tryd.func106, Tryd.ntmps106
  go_wp2_with fail
  refine (hasPrefix_in s p _).mono ?_
  rintro e w1 ⟨⟨b, rfl, hb⟩, hk⟩
  have HB : Hid (b = true ↔ p.data.toList <+: s.data.toList) := hb
  clear hb
  go_wp2
  go_ret
  exact ⟨⟨b, rfl, HB.out⟩, hk⟩

end Go.Proofs.YtfblpbihpmhgjaaDoor

namespace Go.Proofs.YtfblpbihpmhgjaaDoor
open Go.RowKit

set_option maxHeartbeats 400000 in
theorem specKey (s : ByteArray) (w : World) (hs : s.size ≤ maxLen) :
    Calls Tryd.prog 125 #[.string s] w fun e w' => e = .returned (.bool (keyB s)) ∧ w' = w := by
  unfold maxLen at hs
  go_enter Tryd.func125, Tryd.ntmps125
  go_wp2
  go_loop [3] (fun i => ∃ k : Nat, k ≤ s.size ∧ i = .int .i64 k ∧ (s.data.toList.take k).all keyC = true) (fun i => s.size - (intOf i).toNat)
  case atStart => exact ⟨0, Nat.zero_le _, rfl, rfl⟩
  case round =>
    obtain ⟨k, hk, rfl, hall⟩ := hrel
    have HA : Hid ((s.data.toList.take k).all keyC = true) := hall
    clear hall
    by_cases hlt : k < s.size
    · cases hb : keyC s[k] with
      | true =>
        have h3 := keyC_true hb
        have HB : Hid (keyC s[k] = true) := hb
        clear hb
        rcases h3 with ⟨h31, h32⟩ | ⟨h31, h32⟩
        · go_wp2
          go_round
          case rel => exact ⟨k + 1, by omega, by go_num, key_take_snoc s k hlt HA.out HB.out⟩
          case measure => simp [intOf]; omega
        · go_wp2
          go_round
          case rel => exact ⟨k + 1, by omega, by go_num, key_take_snoc s k hlt HA.out HB.out⟩
          case measure => simp [intOf]; omega
      | false =>
        have h3 := keyC_false hb
        have HB : Hid (keyC s[k] = false) := hb
        clear hb
        rcases h3 with h3 | ⟨h3, h4⟩ | h3
        · go_wp2
          go_ret
          exact ⟨ret_bool (key_false_of s k hlt HB.out).symm, rfl⟩
        · go_wp2
          go_ret
          exact ⟨ret_bool (key_false_of s k hlt HB.out).symm, rfl⟩
        · go_wp2
          go_ret
          exact ⟨ret_bool (key_false_of s k hlt HB.out).symm, rfl⟩
    · go_wp2
      all_goals
        go_ret
        refine ⟨ret_bool ?_, rfl⟩
        rw [keyB_of_all s k (by omega) HA.out]
        first | exact sz8_yes _ (by omega) | exact sz8_no _ (by omega)

set_option maxHeartbeats 400000 in
theorem isKey_yes (b : Int) (w : World) (h : (97 ≤ b ∧ b ≤ 122) ∨ (47 ≤ b ∧ b ≤ 57)) : Calls Tryd.prog 156 #[.int .u8 b] w fun e w' => e = .returned (.bool true) ∧ w' = w := by
  rcases h with ⟨h1, h2⟩ | ⟨h1, h2⟩
  · go_enter Tryd.func156, Tryd.ntmps156
    go_wp2
    all_goals
      go_ret
      exact ⟨rfl, rfl⟩
  · by_cases h3 : b = 47
    · subst h3
      go_enter Tryd.func156, Tryd.ntmps156
      go_wp2
      all_goals
        go_ret
        exact ⟨rfl, rfl⟩
    · have h4 : 48 ≤ b := by omega
      go_enter Tryd.func156, Tryd.ntmps156
      go_wp2
      all_goals
        go_ret
        exact ⟨rfl, rfl⟩

set_option maxHeartbeats 400000 in
theorem isKey_no (b : Int) (w : World) (h : b < 47 ∨ (57 < b ∧ b < 97) ∨ 122 < b) : Calls Tryd.prog 156 #[.int .u8 b] w fun e w' => e = .returned (.bool false) ∧ w' = w := by
  have hd : (b == 47) = false := by rw [beq_eq_false_iff_ne]; omega
  have hd' : ¬ b = 47 := by omega
  rcases h with h | ⟨h, h'⟩ | h
  · go_enter Tryd.func156, Tryd.ntmps156
    go_wp2
    all_goals
      go_ret
      exact ⟨ret_bool (by first | rfl | (simp; omega) | simp), rfl⟩
  · go_enter Tryd.func156, Tryd.ntmps156
    go_wp2
    all_goals
      go_ret
      exact ⟨ret_bool (by first | rfl | (simp; omega) | simp), rfl⟩
  · go_enter Tryd.func156, Tryd.ntmps156
    go_wp2
    all_goals
      go_ret
      exact ⟨ret_bool (by first | rfl | (simp; omega) | simp), rfl⟩

set_option maxHeartbeats 400000 in
theorem implKey (s : ByteArray) (w : World) (hs : s.size ≤ maxLen) :
    Calls Tryd.prog 127 #[.string s] w fun e w' => e = .returned (.bool (keyB s)) ∧ w' = w := by
  unfold maxLen at hs
  by_cases h1 : s.size < 1
  · go_enter Tryd.func127, Tryd.ntmps127
    go_wp2
    go_ret
    exact ⟨ret_bool (keyB_small s h1).symm, rfl⟩
  by_cases h4 : 8 < s.size
  · go_enter Tryd.func127, Tryd.ntmps127
    go_wp2
    go_ret
    exact ⟨ret_bool (keyB_big s h4).symm, rfl⟩
  go_enter Tryd.func127, Tryd.ntmps127
  go_wp2
  go_loop [14] (fun i => ∃ k : Nat, k ≤ s.size ∧ i = .int .i64 k ∧ (s.data.toList.take k).all keyC = true) (fun i => s.size - (intOf i).toNat)
  case atStart => exact ⟨0, Nat.zero_le _, rfl, rfl⟩
  case round =>
    obtain ⟨k, hk, rfl, hall⟩ := hrel
    have HA : Hid ((s.data.toList.take k).all keyC = true) := hall
    clear hall
    by_cases hlt : k < s.size
    · cases hb : keyC s[k] with
      | true =>
        have h3 := keyC_true hb
        have H3 : Hid ((97 ≤ ((s[k]).toNat : Int) ∧ ((s[k]).toNat : Int) ≤ 122) ∨ (47 ≤ ((s[k]).toNat : Int) ∧ ((s[k]).toNat : Int) ≤ 57)) := h3
        have HB : Hid (keyC s[k] = true) := hb
        clear hb h3
        go_wp2_with (go_at_call 156; refine (isKey_yes _ _ H3.out).mono ?_; rintro e w' ⟨rfl, rfl⟩)
        go_round
        case rel => exact ⟨k + 1, by omega, by go_num, key_take_snoc s k hlt HA.out HB.out⟩
        case measure => simp [intOf]; omega
      | false =>
        have h3 := keyC_false hb
        have H3 : Hid (((s[k]).toNat : Int) < 47 ∨ (57 < ((s[k]).toNat : Int) ∧ ((s[k]).toNat : Int) < 97) ∨ 122 < ((s[k]).toNat : Int)) := h3
        have HB : Hid (keyC s[k] = false) := hb
        clear hb h3
        go_wp2_with (go_at_call 156; refine (isKey_no _ _ H3.out).mono ?_; rintro e w' ⟨rfl, rfl⟩)
        go_ret
        exact ⟨ret_bool (key_false_of s k hlt HB.out).symm, rfl⟩
    · go_wp2
      go_ret
      exact ⟨ret_bool (keyB_all s (by omega) (by omega) k (by omega) HA.out).symm, rfl⟩

end Go.Proofs.YtfblpbihpmhgjaaDoor
