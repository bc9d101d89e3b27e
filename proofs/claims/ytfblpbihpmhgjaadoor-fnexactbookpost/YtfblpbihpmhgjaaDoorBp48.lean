/-
  The laws' sizes of postings, with their sum, by walks of their Go text.
-/
import Derived.Test.YtfblpbihpmhgjaaDoorBp10
namespace Go.Proofs.YtfblpbihpmhgjaaDoor
open Go.RowKit

/-- How many legs postings have in all. -/
def legSum : List PostD → Int
  | [] => 0
  | p :: B => (p.2.length : Int) + legSum B
theorem legSum_append (A B : List PostD) : legSum (A ++ B) = legSum A + legSum B := by
  induction A with
  | nil => simp [legSum]
  | cons p A ih => simp only [List.cons_append, legSum, ih]; omega
theorem legSum_take {B : List PostD} {k : Nat} {p : PostD} (h : B[k]? = some p) : legSum (B.take (k + 1)) = legSum (B.take k) + p.2.length := by
  rw [List.take_add_one, h, legSum_append]
  simp [legSum]
theorem legSum_nonneg (B : List PostD) : 0 ≤ legSum B := by
  induction B with
  | nil => simp [legSum]
  | cons p B ih => simp only [legSum]; omega
theorem legSum_le (B : List PostD) (k : Nat) : legSum (B.take k) ≤ legSum B := by
  have h := legSum_append (B.take k) (B.drop k)
  rw [List.take_append_drop] at h
  have := legSum_nonneg (B.drop k)
  omega

set_option maxHeartbeats 400000 in
theorem szLegS_sum (a : Option Addr) (len cap : Nat) (L : List LegD) (left : Int) (w : World) (hL : LegsAt w a len cap L) (h0 : 0 ≤ left) (h1 : left ≤ 1048576) :
    Calls Tryd.prog 47 #[.slice a len cap, .int .i64 left] w fun e w' => ∃ r : Int, e = .returned (.int .i64 r) ∧ (r = -1 ∨ (0 ≤ r ∧ r + len ≤ left ∧ (len : Int) ≤ left)) ∧ Below w.heap.size w w' := by
  have hbl := hL.room
  have hbc := hL.big
  unfold maxLen at hbc
  have HL : Hid (LegsAt w a len cap L) := hL
  clear hL
  by_cases hb : left < len
  · go_enter Tryd.func47, Tryd.ntmps47
    go_wp2
    go_ret
    exact ⟨-1, rfl, Or.inl rfl, Below.refl _ _⟩
  · go_enter Tryd.func47, Tryd.ntmps47
    go_wp2
    go_loopw [1, 5] (fun l i wr => ∃ (k : Nat) (r : Int), k ≤ len ∧ i = .int .i64 k ∧ l = .int .i64 r ∧ 0 ≤ r ∧ r + len ≤ left ∧ Below w.heap.size w wr) (fun _ i _ => len - (intOf i).toNat)
    case atStart => exact ⟨0, left - len, Nat.zero_le _, rfl, rfl, by omega, by omega, Below.refl _ _⟩
    case round =>
      obtain ⟨k, r, hk, rfl, rfl, hr0, hr1, hbw⟩ := hrel
      by_cases hlt : k < len
      · obtain ⟨b, off, rfl, hbb⟩ := HL.out.form (by omega)
        obtain ⟨s, c, n, hg, hlw, g0, g1, g2⟩ := HL.out.leg hbw hbb k hlt
        have hs := hlw.1
        simp only at hs
        clear hg hlw
        by_cases hsz : r < s.size
        · go_wp2_with (go_at_call 90; refine (szLeg_no _ _ _ _ _ hs hr0 (by omega) hsz).mono ?_; rintro e w1 ⟨rfl, hb1⟩)
          go_ret
          exact ⟨-1, rfl, Or.inl rfl, hbw.trans (hb1.mono hbw.size)⟩
        · go_wp2_with (go_at_call 90; refine (szLeg_yes _ _ _ _ _ hr0 (by omega) (by omega)).mono ?_; rintro e w1 ⟨rfl, hb1⟩)
          go_roundw
          case rel => exact ⟨k + 1, r - s.size, by omega, by go_num, rfl, by omega, by omega, hbw.trans (hb1.mono hbw.size)⟩
          case measure => simp [intOf]; omega
      · go_wp2
        go_ret
        exact ⟨r, rfl, Or.inr ⟨hr0, hr1, by omega⟩, hbw⟩

set_option maxHeartbeats 400000 in
theorem szPost_sum (id : Int) (a : Option Addr) (len cap : Nat) (L : List LegD) (left : Int) (w : World) (hL : LegsAt w a len cap L) (h0 : 0 ≤ left) (h1 : left ≤ 1048576) :
    Calls Tryd.prog 11 #[.agg #[.int .i64 id, .slice a len cap], .int .i64 left] w fun e w' => ∃ r : Int, e = .returned (.int .i64 r) ∧ (r = -1 ∨ (0 ≤ r ∧ r + len ≤ left ∧ (len : Int) ≤ left)) ∧ Below w.heap.size w w' := by
  have hL1 : LegsAt (w.alloc (.cells #[.int .i64 id, .slice a len cap] 24)) a len cap L := hL.keep ((Below.refl _ _).alloc (Nat.le_refl _) _)
  go_enter Tryd.func11, Tryd.ntmps11
  go_wp2_with (go_at_call 47; refine (szLegS_sum _ _ _ _ _ _ hL1 h0 h1).mono ?_; rintro e w1 ⟨r, rfl, hr, hb1⟩)
  · go_ret
    exact ⟨-1, rfl, Or.inl rfl, ((Below.refl _ _).alloc (Nat.le_refl _) _).trans (hb1.mono (by simp))⟩
  · go_ret
    exact ⟨r, rfl, hr, ((Below.refl _ _).alloc (Nat.le_refl _) _).trans (hb1.mono (by simp))⟩

set_option maxHeartbeats 800000 in
theorem szPostS_sum (a : Option Addr) (len cap : Nat) (B : List PostD) (left : Int) (w : World) (hP : PostsAt w a len cap B) (h0 : 0 ≤ left) (h1 : left ≤ 1048576) :
    Calls Tryd.prog 38 #[.slice a len cap, .int .i64 left] w fun e w' => ∃ r : Int, e = .returned (.int .i64 r) ∧ (r = -1 ∨ (0 ≤ r ∧ r ≤ left ∧ (len : Int) ≤ left ∧ (∀ p ∈ B, (p.2.length : Int) ≤ left) ∧ (len : Int) + legSum B ≤ left)) ∧ Below w.heap.size w w' := by
  have hbl := hP.room
  have hbc := hP.big
  unfold maxLen at hbc
  have HL : Hid (PostsAt w a len cap B) := hP
  have HLEN : Hid (B.length = len) := hP.length
  clear hP
  by_cases hb : left < len
  · go_enter Tryd.func38, Tryd.ntmps38
    go_wp2
    go_ret
    exact ⟨-1, rfl, Or.inl rfl, Below.refl _ _⟩
  · go_enter Tryd.func38, Tryd.ntmps38
    go_wp2
    go_loopw [1, 5] (fun l i wr => ∃ (k : Nat) (r : Int), k ≤ len ∧ i = .int .i64 k ∧ l = .int .i64 r ∧ 0 ≤ r ∧ r ≤ left ∧ Below w.heap.size w wr ∧ (∀ j p, j < k → B[j]? = some p → (p.2.length : Int) ≤ left) ∧ r + len + legSum (B.take k) ≤ left) (fun _ i _ => len - (intOf i).toNat)
    case atStart => exact ⟨0, left - len, Nat.zero_le _, rfl, rfl, by omega, by omega, Below.refl _ _, fun j p hj => by omega, by simp [legSum]⟩
    case round =>
      obtain ⟨k, r, hk, rfl, rfl, hr0, hr1, hbw, hall, hsum⟩ := hrel
      have HSUM : Hid (r + len + legSum (B.take k) ≤ left) := hsum
      clear hsum
      have HALL : Hid (∀ j p, j < k → B[j]? = some p → (p.2.length : Int) ≤ left) := hall
      clear hall
      by_cases hlt : k < len
      · obtain ⟨b, off, rfl, hbb⟩ := HL.out.form (by omega)
        obtain ⟨id, L, s, n, c, hg, hwf, g0, g1, hLk⟩ := HL.out.post hbw k hlt
        have HG : Hid (B[k]? = some (id, L)) := hg
        have HLN : Hid (L.length = n) := hLk.length
        have hbk : b < wr.heap.size := Nat.lt_of_lt_of_le hbb hbw.size
        clear hg hwf
        go_wp2_with (go_at_call 11; refine (szPost_sum _ _ _ _ L _ _ hLk hr0 (by omega)).mono ?_; rintro e w1 ⟨r', rfl, hr', hb1⟩; rcases hr' with rfl | ⟨hr0', hr1', hln⟩)
        · go_ret
          exact ⟨-1, rfl, Or.inl rfl, hbw.trans (hb1.mono hbw.size)⟩
        · go_wp2
          go_roundw
          case rel =>
            refine ⟨k + 1, r', by omega, by go_num, rfl, hr0', by omega, hbw.trans (hb1.mono hbw.size), fun j p hj hp => ?_, by have := HSUM.out; rw [legSum_take HG.out]; have := HLN.out; simp only at *; omega⟩
            by_cases hjk : j = k
            · subst hjk
              rw [HG.out] at hp
              cases hp
              have := HLN.out
              simp only
              omega
            · exact HALL.out j p (by omega) hp
          case measure => simp [intOf]; omega
      · go_wp2
        go_ret
        refine ⟨r, rfl, Or.inr ⟨hr0, hr1, by omega, fun p hp => ?_, by have := HSUM.out; rw [List.take_of_length_le (by have := HLEN.out; omega)] at this; omega⟩, hbw⟩
        obtain ⟨j, hj, rfl⟩ := List.getElem_of_mem hp
        exact HALL.out j _ (by have := HLEN.out; omega) (List.getElem?_eq_getElem hj)
end Go.Proofs.YtfblpbihpmhgjaaDoor
