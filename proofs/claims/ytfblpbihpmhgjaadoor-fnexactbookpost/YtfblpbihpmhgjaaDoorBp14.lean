/-
  What the document's PostOk answers at every posting, by a walk of its Go text.
  What the document's PostTo and PostSum answer at every posting, by walks of their Go text.
-/
import Derived.Test.YtfblpbihpmhgjaaDoorBp03
import Derived.Test.YtfblpbihpmhgjaaDoorBp12
namespace Go.Proofs.YtfblpbihpmhgjaaDoor
open Go.RowKit

set_option maxHeartbeats 800000 in
theorem specPostOk_in (id : Int) (b off len cap : Nat) (L : List LegD) (w : World) (hL : LegsAt w (some ⟨b, off, none⟩) len cap L) (hid : 0 ≤ id) (hid2 : id ≤ 99) (hl : 1 ≤ len) (hl2 : len ≤ 4) :
    Calls Tryd.prog 32 #[.agg #[.int .i64 id, .slice (some ⟨b, off, none⟩) len cap]] w fun e w' => e = .returned (.bool (postB id L)) ∧ Below w.heap.size w w' := by
  have hlen := hL.length
  have hbw := (hL.lies _ rfl (by omega)).1
  simp only at hbw
  have HL : Hid (LegsAt w (some ⟨b, off, none⟩) len cap L) := hL
  have HLEN : Hid (L.length = len) := hlen
  clear hL hlen
  go_enter Tryd.func32, Tryd.ntmps32
  go_wp2
  go_loopw [3] (fun i wr => ∃ k : Nat, k ≤ len ∧ i = .int .i64 k ∧ Below (w.heap.size + 1) (w.alloc (.cells #[.int .i64 id, .slice (some ⟨b, off, none⟩) len cap] 29)) wr ∧ (L.take k).all legB = true) (fun i _ => len - (intOf i).toNat)
  case atStart => exact ⟨0, Nat.zero_le _, rfl, Below.refl _ _, rfl⟩
  case round =>
    obtain ⟨k, hk, rfl, hb, hall⟩ := hrel
    have hb0 : Below w.heap.size w wr := ((Below.refl _ _).alloc (Nat.le_refl _) _).trans (hb.mono (by omega))
    have hsz := hb.size
    simp at hsz
    have hbx : wr.cell? ⟨w.heap.size, 0, none⟩ = some (.int .i64 id) := (hb.cell (p := ⟨w.heap.size, 0, none⟩) (by simp)).trans (by simp)
    have hby : wr.cell? ⟨w.heap.size, 1, none⟩ = some (.slice (some ⟨b, off, none⟩) len cap) := (hb.cell (p := ⟨w.heap.size, 1, none⟩) (by simp)).trans (by simp)
    have HALL : Hid ((L.take k).all legB = true) := hall
    clear hall
    by_cases hlt : k < len
    · obtain ⟨s, c, n, hg, hlw, g0, g1, g2⟩ := HL.out.leg hb0 hbw k hlt
      have HG : Hid (L[k]? = some (s, c, n)) := hg
      have hs := hlw.1
      simp only at hs
      clear hg hlw
      cases hv : legB (s, c, n) with
      | true =>
        go_wp2_with (go_at_call 74; refine (specLeg _ _ _ _ hs).mono ?_; rintro e w1 ⟨rfl, hb1⟩; obtain ⟨hc1, hf1⟩ := bcell hb1)
        go_roundw
        case rel => exact ⟨k + 1, by omega, by go_num, hb.trans (hb1.mono (by omega)), take_all_snoc HG.out HALL.out hv⟩
        case measure => simp [intOf]; omega
      | false =>
        go_wp2_with (go_at_call 74; refine (specLeg _ _ _ _ hs).mono ?_; rintro e w1 ⟨rfl, hb1⟩; obtain ⟨hc1, hf1⟩ := bcell hb1)
        go_ret
        exact ⟨ret_bool (postB_leg HG.out hv).symm, hb0.trans (hb1.mono (by omega))⟩
    · go_wp2
      go_ret
      exact ⟨ret_bool (postB_yes hid hid2 (by rw [HLEN.out]; exact hl) (by rw [HLEN.out]; exact hl2) (k := k) (by rw [HLEN.out]; omega) HALL.out).symm, hb0⟩

set_option maxHeartbeats 400000 in
theorem specPostOk (id : Int) (a : Option Addr) (len cap : Nat) (L : List LegD) (w : World) (hL : LegsAt w a len cap L) :
    Calls Tryd.prog 32 #[.agg #[.int .i64 id, .slice a len cap]] w fun e w' => e = .returned (.bool (postB id L)) ∧ Below w.heap.size w w' := by
  have hlen := hL.length
  have HLEN : Hid (L.length = len) := hlen
  have hbl := hL.room
  have hbc := hL.big
  unfold maxLen at hbc
  clear hlen
  by_cases h1 : id < 0
  · clear hL
    go_enter Tryd.func32, Tryd.ntmps32
    go_wp2
    go_ret
    exact ⟨ret_bool (postB_id0 h1).symm, (Below.refl _ _).alloc (Nat.le_refl _) _⟩
  by_cases h2 : 99 < id
  · clear hL
    go_enter Tryd.func32, Tryd.ntmps32
    go_wp2
    go_ret
    exact ⟨ret_bool (postB_id1 h2).symm, (Below.refl _ _).alloc (Nat.le_refl _) _⟩
  by_cases h3 : len < 1
  · clear hL
    go_enter Tryd.func32, Tryd.ntmps32
    go_wp2
    go_ret
    exact ⟨ret_bool (postB_l0 (by rw [HLEN.out]; omega)).symm, (Below.refl _ _).alloc (Nat.le_refl _) _⟩
  by_cases h4 : 4 < len
  · clear hL
    go_enter Tryd.func32, Tryd.ntmps32
    go_wp2
    go_ret
    exact ⟨ret_bool (postB_l1 (by rw [HLEN.out]; omega)).symm, (Below.refl _ _).alloc (Nat.le_refl _) _⟩
  obtain ⟨b, off, rfl, _⟩ := hL.form (by omega)
  exact specPostOk_in id b off len cap L w hL (by omega) (by omega) (by omega) (by omega)

end Go.Proofs.YtfblpbihpmhgjaaDoor

namespace Go.Proofs.YtfblpbihpmhgjaaDoor
open Go.RowKit

theorem selY_len4 (cur : Int) {L : List LegD} (h : L.length ≤ 4) (k : Nat) : (selY cur (L.take k)).length ≤ 4 := by
  have := selY_len cur (L.take k)
  simp at this
  omega
theorem totY_bd (ys : List LegY) : -(1000 * (ys.length : Int)) ≤ totY ys ∧ totY ys ≤ 1000 * (ys.length : Int) := by
  induction ys using ys_ind with
  | h0 => simp [totY]
  | hs ys y ih =>
    have := numY_bd y
    rw [totY_snoc, List.length_append]
    simp only [List.length_cons, List.length_nil, Int.natCast_add]
    omega
theorem bytes_ne {s t : ByteArray} (h : ¬ s.data.toList = t.data.toList) : (s.toList == t.toList) = false := by
  rw [ByteArray.toList_eq, ByteArray.toList_eq]; simpa using h
theorem bytes_eq {s t : ByteArray} (h : s.data.toList = t.data.toList) : (s.toList == t.toList) = true := by
  rw [ByteArray.toList_eq, ByteArray.toList_eq]; simpa using h

set_option maxHeartbeats 1000000 in
theorem l1To_any (id cur : Int) (acct : ByteArray) (a : Option Addr) (len cap : Nat) (L : List LegD) (w : World) (hL : LegsAt w a len cap L) (hall : ∀ l ∈ L, legB l = true) (h4 : L.length ≤ 4) :
    Calls Tryd.prog 141 #[.agg #[.int .i64 id, .slice a len cap], .string acct, .int .i64 cur] w fun e w' => e = .returned (.int .i64 (atY (selY cur L) acct.data.toList)) ∧ Below w.heap.size w w' := by
  have hr := hL.room
  have hbg := hL.big
  unfold maxLen at hbg
  have HLEN : Hid (L.length = len) := hL.length
  have HL : Hid (LegsAt w a len cap L) := hL
  have HALL : Hid (∀ l ∈ L, legB l = true) := hall
  have hk0 : Below w.heap.size w (w.alloc (.cells #[.int .i64 id, .slice a len cap] 29)) := (Below.refl _ _).alloc (Nat.le_refl _) _
  have H4 : Hid (L.length ≤ 4) := h4
  clear hL hall h4
  go_enter Tryd.func141, Tryd.ntmps141
  go_wp2
  go_loop [7, 8] (fun m i => ∃ k : Nat, k ≤ len ∧ i = .int .i64 k ∧ m = .int .i64 (atY (selY cur (L.take k)) acct.data.toList)) (fun _ i => len - (intOf i).toNat)
  case atStart => exact ⟨0, Nat.zero_le _, rfl, rfl⟩
  case round =>
    obtain ⟨k, hk, rfl, rfl⟩ := hrel
    have hab := atY_bd (selY cur (L.take k)) acct.data.toList
    have hl4 := selY_len4 cur H4.out k
    obtain ⟨A0, hA0⟩ : ∃ A0, A0 = atY (selY cur (L.take k)) acct.data.toList := ⟨_, rfl⟩
    rw [← hA0] at hab ⊢
    have HA0 : Hid (A0 = atY (selY cur (L.take k)) acct.data.toList) := hA0
    clear hA0
    obtain ⟨hab1, hab2⟩ := hab
    have hb1 : -4000 ≤ A0 := by omega
    have hb2 : A0 ≤ 4000 := by omega
    clear hab1 hab2 hl4
    by_cases hlt : k < len
    · obtain ⟨b, off, rfl, hbb⟩ := HL.out.form (by omega)
      have hbw : b < w.heap.size := hbb
      obtain ⟨s, c, n, hg, hlw, g0, g1, g2⟩ := HL.out.leg (Below.refl _ w) hbb k hlt
      have hlb : legB (s, c, n) = true := HALL.out _ (List.mem_of_getElem? hg)
      have hnb := numY_bd ⟨(s, c, n), hlb⟩
      simp only [numY] at hnb
      obtain ⟨hn1, hn2⟩ := hnb
      have HG : Hid (L[k]? = some (s, c, n)) := hg
      have HLB : Hid (legB (s, c, n) = true) := hlb
      clear hg hlw hlb
      by_cases hc : c = cur
      · subst hc
        by_cases hs : s.data.toList = acct.data.toList
        · have hse := bytes_eq hs
          have HS : Hid (s.data.toList = acct.data.toList) := hs
          clear hs
          go_wp2
          go_round
          case rel => exact ⟨k + 1, by omega, by go_num, by rw [selY_take_yes HG.out HLB.out rfl, atY_snoc, ← HA0.out, if_pos (show keyY ⟨(s, c, n), HLB.out⟩ = _ from HS.out)]; rfl⟩
          case measure => simp [intOf]; omega
        · have hse := bytes_ne hs
          have HS : Hid (¬ s.data.toList = acct.data.toList) := hs
          clear hs
          go_wp2
          go_round
          case rel => exact ⟨k + 1, by omega, by go_num, by rw [selY_take_yes HG.out HLB.out rfl, atY_snoc, ← HA0.out, if_neg (show ¬ keyY ⟨(s, c, n), HLB.out⟩ = _ from HS.out), Int.add_zero]⟩
          case measure => simp [intOf]; omega
      · have hce : (c == cur) = false := by simpa using hc
        have HC : Hid (¬ c = cur) := hc
        clear hc
        go_wp2
        go_round
        case rel => exact ⟨k + 1, by omega, by go_num, by rw [selY_take_no HG.out HC.out, ← HA0.out]⟩
        case measure => simp [intOf]; omega
    · go_wp2
      go_ret
      exact ⟨ret_int (by rw [HA0.out, List.take_of_length_le (by rw [HLEN.out]; omega)]), hk0⟩

end Go.Proofs.YtfblpbihpmhgjaaDoor
