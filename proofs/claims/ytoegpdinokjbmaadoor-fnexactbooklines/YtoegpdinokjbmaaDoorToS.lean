/-
  What the document's PostTo and PostSum answer at every posting, by walks of their Go text.
-/
import Derived.Test.YtoegpdinokjbmaaDoorPostOkS
import Derived.Test.YtoegpdinokjbmaaDoorFairP
namespace Go.Proofs.YtoegpdinokjbmaaDoor
open Go.RowKit

theorem selY_len4 (cur : Int) {L : List LegD} (h : L.length ≤ 4) (k : Nat) : (selY cur (L.take k)).length ≤ 4 := by
  have := selY_len cur (L.take k)
  simp at this
  omega
theorem totY_bd (ys : List LegY) : -(1000 * (ys.length : Int)) ≤ totY ys ∧ totY ys ≤ 1000 * (ys.length : Int) := by
  induction ys using ys_ind with
  | h0 => simp [totY]
  | hs ys y ih =>
    have := numY_bd y
    rw [totY_snoc, List.length_append]
    simp only [List.length_cons, List.length_nil, Int.natCast_add]
    omega
theorem bytes_ne {s t : ByteArray} (h : ¬ s.data.toList = t.data.toList) : (s.toList == t.toList) = false := by
  rw [ByteArray.toList_eq, ByteArray.toList_eq]; simpa using h
theorem bytes_eq {s t : ByteArray} (h : s.data.toList = t.data.toList) : (s.toList == t.toList) = true := by
  rw [ByteArray.toList_eq, ByteArray.toList_eq]; simpa using h

set_option maxHeartbeats 1000000 in
theorem l1To_any (id cur : Int) (acct : ByteArray) (a : Option Addr) (len cap : Nat) (L : List LegD) (w : World) (hL : LegsAt w a len cap L) (hall : ∀ l ∈ L, legB l = true) (h4 : L.length ≤ 4) :
    Calls Tryd.prog 73 #[.agg #[.int .i64 id, .slice a len cap], .string acct, .int .i64 cur] w fun e w' => e = .returned (.int .i64 (atY (selY cur L) acct.data.toList)) ∧ Below w.heap.size w w' := by
  have hr := hL.room
  have hbg := hL.big
  unfold maxLen at hbg
  have HLEN : Hid (L.length = len) := hL.length
  have HL : Hid (LegsAt w a len cap L) := hL
  have HALL : Hid (∀ l ∈ L, legB l = true) := hall
  have hk0 : Below w.heap.size w (w.alloc (.cells #[.int .i64 id, .slice a len cap] 43)) := (Below.refl _ _).alloc (Nat.le_refl _) _
  have H4 : Hid (L.length ≤ 4) := h4
  clear hL hall h4
  go_enter Tryd.func73, Tryd.ntmps73
  go_wp2
  go_loop [7, 8] (fun m i => ∃ k : Nat, k ≤ len ∧ i = .int .i64 k ∧ m = .int .i64 (atY (selY cur (L.take k)) acct.data.toList)) (fun _ i => len - (intOf i).toNat)
  case atStart => exact ⟨0, Nat.zero_le _, rfl, rfl⟩
  case round =>
    obtain ⟨k, hk, rfl, rfl⟩ := hrel
    have hab := atY_bd (selY cur (L.take k)) acct.data.toList
    have hl4 := selY_len4 cur H4.out k
    obtain ⟨A0, hA0⟩ : ∃ A0, A0 = atY (selY cur (L.take k)) acct.data.toList := ⟨_, rfl⟩
    rw [← hA0] at hab ⊢
    have HA0 : Hid (A0 = atY (selY cur (L.take k)) acct.data.toList) := hA0
    clear hA0
    obtain ⟨hab1, hab2⟩ := hab
    have hb1 : -4000 ≤ A0 := by omega
    have hb2 : A0 ≤ 4000 := by omega
    clear hab1 hab2 hl4
    by_cases hlt : k < len
    · obtain ⟨b, off, rfl, hbb⟩ := HL.out.form (by omega)
      have hbw : b < w.heap.size := hbb
      obtain ⟨s, c, n, hg, hlw, g0, g1, g2⟩ := HL.out.leg (Below.refl _ w) hbb k hlt
      have hlb : legB (s, c, n) = true := HALL.out _ (List.mem_of_getElem? hg)
      have hnb := numY_bd ⟨(s, c, n), hlb⟩
      simp only [numY] at hnb
      obtain ⟨hn1, hn2⟩ := hnb
      have HG : Hid (L[k]? = some (s, c, n)) := hg
      have HLB : Hid (legB (s, c, n) = true) := hlb
      clear hg hlw hlb
      by_cases hc : c = cur
      · subst hc
        by_cases hs : s.data.toList = acct.data.toList
        · have hse := bytes_eq hs
          have HS : Hid (s.data.toList = acct.data.toList) := hs
          clear hs
          go_wp2
          go_round
          case rel => exact ⟨k + 1, by omega, by go_num, by rw [selY_take_yes HG.out HLB.out rfl, atY_snoc, ← HA0.out, if_pos (show keyY ⟨(s, c, n), HLB.out⟩ = _ from HS.out)]; rfl⟩
          case measure => simp [intOf]; omega
        · have hse := bytes_ne hs
          have HS : Hid (¬ s.data.toList = acct.data.toList) := hs
          clear hs
          go_wp2
          go_round
          case rel => exact ⟨k + 1, by omega, by go_num, by rw [selY_take_yes HG.out HLB.out rfl, atY_snoc, ← HA0.out, if_neg (show ¬ keyY ⟨(s, c, n), HLB.out⟩ = _ from HS.out), Int.add_zero]⟩
          case measure => simp [intOf]; omega
      · have hce : (c == cur) = false := by simpa using hc
        have HC : Hid (¬ c = cur) := hc
        clear hc
        go_wp2
        go_round
        case rel => exact ⟨k + 1, by omega, by go_num, by rw [selY_take_no HG.out HC.out, ← HA0.out]⟩
        case measure => simp [intOf]; omega
    · go_wp2
      go_ret
      exact ⟨ret_int (by rw [HA0.out, List.take_of_length_le (by rw [HLEN.out]; omega)]), hk0⟩

end Go.Proofs.YtoegpdinokjbmaaDoor
