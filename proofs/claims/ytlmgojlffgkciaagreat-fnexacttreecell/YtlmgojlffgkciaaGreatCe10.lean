/-
  Pieces of TreeOk of both sides: what is newer, by walks of their Go text.
-/
import Derived.Test.YtlmgojlffgkciaaGreatCe09
namespace Go.Proofs.YtlmgojlffgkciaaGreat
open Go.RowKit
set_option maxRecDepth 100000
set_option maxHeartbeats 3200000
def clash (x y : EntD) : Bool := decide (x.1 = y.1) && decide (x.2.1 ≤ y.2.1)
def aboveB (A B : List EntD) : Bool := A.all (fun x => B.all (fun y => !clash x y))
theorem all_snoc {α : Type} {L : List α} {f : α → Bool} {k : Nat} {e : α} (h : (L.take k).all f = true) (hk : L[k]? = some e) (he : f e = true) : (L.take (k + 1)).all f = true := by
  rw [List.take_add_one, hk]
  simp [List.all_append, h, he]
theorem all_no {α : Type} {L : List α} {f : α → Bool} {k : Nat} {e : α} (hk : L[k]? = some e) (he : f e = false) : L.all f = false := by
  rw [Bool.eq_false_iff]
  intro h
  rw [List.all_eq_true] at h
  rw [h e (List.mem_of_getElem? hk)] at he
  cases he
theorem specAbove (a1 a2 : Option Addr) (n1 c1 n2 c2 : Nat) (A B : List EntD) (w : World) (h1 : EntsAt w a1 n1 c1 A) (h2 : EntsAt w a2 n2 c2 B) :
    Calls Tryz.prog 119 #[.slice a1 n1 c1, .slice a2 n2 c2] w fun e w' => e = .returned (.bool (aboveB A B)) ∧ Below w.heap.size w w' := by
  have HN1 : Hid (A.length = n1) := h1.length
  have HN2 : Hid (B.length = n2) := h2.length
  have hr1 := h1.room
  have hb1 := h1.big
  have hr2 := h2.room
  have hb2 := h2.big
  unfold maxLen at hb1 hb2
  have H1 : Hid (EntsAt w a1 n1 c1 A) := h1
  have H2 : Hid (EntsAt w a2 n2 c2 B) := h2
  clear h1 h2
  go_enter Tryz.func119, Tryz.ntmps119
  go_wp2
  go_loopw [5] (fun iv wr => ∃ i : Nat, i ≤ n1 ∧ iv = .int .i64 i ∧ Below w.heap.size w wr ∧ (A.take i).all (fun x => B.all (fun y => !clash x y)) = true) (fun iv _ => n1 - (intOf iv).toNat)
  case atStart => exact ⟨0, Nat.zero_le _, rfl, Below.refl _ _, by simp⟩
  case round =>
    obtain ⟨i, hi, rfl, hb, hw⟩ := hrel
    have HW : Hid ((A.take i).all (fun x => B.all (fun y => !clash x y)) = true) := hw
    have HB : Hid (Below w.heap.size w wr) := hb
    clear hw
    by_cases hin : i < n1
    · have hinI : (i : Int) < (n1 : Int) := by omega
      obtain ⟨b1, o1, rfl, hx1⟩ := H1.out.form (by omega)
      obtain ⟨s, q, d, t, nn, hg, _, _⟩ := H1.out.ent hb hx1 i hin
      have HG : Hid (A[i]? = some (s, q, d, t, nn)) := hg
      clear hg hb
      go_wp2
      go_loopw [6] (fun kv wq => ∃ k : Nat, k ≤ n2 ∧ kv = .int .i64 k ∧ Below w.heap.size w wq ∧ (B.take k).all (fun y => !clash (s, q, d, t, nn) y) = true) (fun kv _ => n2 - (intOf kv).toNat)
      case atStart => exact ⟨0, Nat.zero_le _, rfl, HB.out, by simp⟩
      case round =>
        obtain ⟨k, hk, rfl, hbk, hwk⟩ := hrel
        have HWK : Hid ((B.take k).all (fun y => !clash (s, q, d, t, nn) y) = true) := hwk
        have HBK : Hid (Below w.heap.size w wr) := hbk
        clear hwk
        by_cases hkn : k < n2
        · have hknI : (k : Int) < (n2 : Int) := by omega
          obtain ⟨b2, o2, rfl, hx2⟩ := H2.out.form (by omega)
          obtain ⟨s1, q1, d1, t1, nn1, hL1, _, g0, g1, _⟩ := H1.out.ent hbk hx1 i hin
          rw [HG.out] at hL1
          cases hL1
          obtain ⟨s', q', d', t', nn', hF, _, e0, e1, _⟩ := H2.out.ent hbk hx2 k hkn
          have HF : Hid (B[k]? = some (s', q', d', t', nn')) := hF
          have z1 := Nat.lt_of_lt_of_le hx1 hbk.size
          have z2 := Nat.lt_of_lt_of_le hx2 hbk.size
          have k0 : Below wr.heap.size wr wr.drew := (Below.refl _ wr).drew
          have HMK : Hid (∀ w', Below wr.heap.size wr w' → (w'.cell? ⟨b1, o1 + i * 5, none⟩ = some (.string s) ∧ w'.cell? ⟨b1, o1 + i * 5 + 1, none⟩ = some (.int .i64 q) ∧ b1 < w'.heap.size ∧ w'.cell? ⟨b2, o2 + k * 5, none⟩ = some (.string s') ∧ w'.cell? ⟨b2, o2 + k * 5 + 1, none⟩ = some (.int .i64 q') ∧ b2 < w'.heap.size)) := fun w' kk => ⟨cell_later kk g0, cell_later kk g1, Nat.lt_of_lt_of_le z1 kk.size, cell_later kk e0, cell_later kk e1, Nat.lt_of_lt_of_le z2 kk.size⟩
          have KZ : Hid (Below w.heap.size w wr.drew) := HBK.out.trans (k0.mono HBK.out.size)
          clear hF hbk
          by_cases hs : s = s'
          · subst hs
            by_cases hq : q ≤ q'
            · have hqd : decide (q ≤ q') = true := decide_eq_true hq
              have HC : Hid ((!clash (s, q, d, t, nn) (s, q', d', t', nn')) = false) := by show (!clash _ _) = false; unfold clash; simp [hq]
              go_wp2_with fail
              refine wp_region_held_drew (S := (fun w' => w'.cell? ⟨b1, o1 + i * 5, none⟩ = some (.string s) ∧ w'.cell? ⟨b1, o1 + i * 5 + 1, none⟩ = some (.int .i64 q) ∧ b1 < w'.heap.size ∧ w'.cell? ⟨b2, o2 + k * 5, none⟩ = some (.string s) ∧ w'.cell? ⟨b2, o2 + k * 5 + 1, none⟩ = some (.int .i64 q') ∧ b2 < w'.heap.size)) (by kernel_rfl) (HMK.out _ k0) (fun hHeld => ?_)
              refine tkL 0 hHeld ?_; try go_frame
              refine tkL 1 hHeld ?_; try go_frame
              refine tkL 2 hHeld ?_; try go_frame
              refine tkL 3 hHeld ?_; try go_frame
              refine tkL 4 hHeld ?_; try go_frame
              refine tkL 5 hHeld ?_; try go_frame
              refine tkL 6 hHeld ?_; try go_frame
              refine tkL 7 hHeld ?_; try go_frame
              refine tkL 8 hHeld ?_; try go_frame
              refine tkL 9 hHeld ?_; try go_frame
              refine tkL 10 hHeld ?_; try go_frame
              refine tkL 11 hHeld ?_; try go_frame
              refine tkL 12 hHeld ?_; try go_frame
              refine tkL 13 hHeld ?_; try go_frame
              refine tkL 14 hHeld ?_; try go_frame
              refine tkL 15 hHeld ?_; try go_frame
              refine tkL 16 hHeld ?_; try go_frame
              refine tkL 17 hHeld ?_; try go_frame
              refine tkL 18 hHeld ?_; try go_frame
              refine tkL 19 hHeld ?_; try go_frame
              refine tkL 20 hHeld ?_; try go_frame
              refine tkL 21 hHeld ?_; try go_frame
              refine tkL 22 hHeld ?_; try go_frame
              refine tkL 23 hHeld ?_; try go_frame
              refine wpAnyH_done (by kernel_rfl) ?_ _
              clear k0 HMK hHeld
              go_wp2
              go_ret
              exact ⟨ret_bool (all_no HG.out (all_no HF.out HC.out)).symm, KZ.out⟩
            · have hqd : decide (q ≤ q') = false := decide_eq_false hq
              have HC : Hid ((!clash (s, q, d, t, nn) (s, q', d', t', nn')) = true) := by show (!clash _ _) = true; unfold clash; simp [hq]
              go_wp2_with fail
              refine wp_region_held_drew (S := (fun w' => w'.cell? ⟨b1, o1 + i * 5, none⟩ = some (.string s) ∧ w'.cell? ⟨b1, o1 + i * 5 + 1, none⟩ = some (.int .i64 q) ∧ b1 < w'.heap.size ∧ w'.cell? ⟨b2, o2 + k * 5, none⟩ = some (.string s) ∧ w'.cell? ⟨b2, o2 + k * 5 + 1, none⟩ = some (.int .i64 q') ∧ b2 < w'.heap.size)) (by kernel_rfl) (HMK.out _ k0) (fun hHeld => ?_)
              refine tkL 0 hHeld ?_; try go_frame
              refine tkL 1 hHeld ?_; try go_frame
              refine tkL 2 hHeld ?_; try go_frame
              refine tkL 3 hHeld ?_; try go_frame
              refine tkL 4 hHeld ?_; try go_frame
              refine tkL 5 hHeld ?_; try go_frame
              refine tkL 6 hHeld ?_; try go_frame
              refine tkL 7 hHeld ?_; try go_frame
              refine tkL 8 hHeld ?_; try go_frame
              refine tkL 9 hHeld ?_; try go_frame
              refine tkL 10 hHeld ?_; try go_frame
              refine tkL 11 hHeld ?_; try go_frame
              refine tkL 12 hHeld ?_; try go_frame
              refine tkL 13 hHeld ?_; try go_frame
              refine tkL 14 hHeld ?_; try go_frame
              refine tkL 15 hHeld ?_; try go_frame
              refine tkL 16 hHeld ?_; try go_frame
              refine tkL 17 hHeld ?_; try go_frame
              refine tkL 18 hHeld ?_; try go_frame
              refine tkL 19 hHeld ?_; try go_frame
              refine tkL 20 hHeld ?_; try go_frame
              refine tkL 21 hHeld ?_; try go_frame
              refine tkL 22 hHeld ?_; try go_frame
              refine tkL 23 hHeld ?_; try go_frame
              refine wpAnyH_done (by kernel_rfl) ?_ _
              clear k0 HMK hHeld
              go_wp2
              go_roundw
              case rel => exact ⟨k + 1, by omega, by go_num, KZ.out, all_snoc HWK.out HF.out HC.out⟩
              case measure => simp [intOf]; omega
          · have hne : ¬ s.toList = s'.toList := by
              rw [ByteArray.toList_eq, ByteArray.toList_eq]
              intro h
              exact hs (ByteArray.ext (Array.toList_inj.1 h))
            have hne' : (s.toList == s'.toList) = false := by simpa using hne
            have HC : Hid ((!clash (s, q, d, t, nn) (s', q', d', t', nn')) = true) := by show (!clash _ _) = true; unfold clash; simp [hs]
            clear hs
            go_wp2_with fail
            refine wp_region_held_drew (S := (fun w' => w'.cell? ⟨b1, o1 + i * 5, none⟩ = some (.string s) ∧ w'.cell? ⟨b1, o1 + i * 5 + 1, none⟩ = some (.int .i64 q) ∧ b1 < w'.heap.size ∧ w'.cell? ⟨b2, o2 + k * 5, none⟩ = some (.string s') ∧ w'.cell? ⟨b2, o2 + k * 5 + 1, none⟩ = some (.int .i64 q') ∧ b2 < w'.heap.size)) (by kernel_rfl) (HMK.out _ k0) (fun hHeld => ?_)
            refine tkL 0 hHeld ?_; try go_frame
            refine tkL 1 hHeld ?_; try go_frame
            refine tkL 2 hHeld ?_; try go_frame
            refine tkL 3 hHeld ?_; try go_frame
            refine tkL 4 hHeld ?_; try go_frame
            refine tkL 5 hHeld ?_; try go_frame
            refine tkL 6 hHeld ?_; try go_frame
            refine tkL 7 hHeld ?_; try go_frame
            refine tkL 8 hHeld ?_; try go_frame
            refine tkL 9 hHeld ?_; try go_frame
            refine tkL 10 hHeld ?_; try go_frame
            refine tkL 11 hHeld ?_; try go_frame
            refine tkN 12 hHeld ?_; try go_frame
            refine tkN 13 hHeld ?_; try go_frame
            refine tkN 14 hHeld ?_; try go_frame
            refine tkN 15 hHeld ?_; try go_frame
            refine tkN 16 hHeld ?_; try go_frame
            refine tkN 17 hHeld ?_; try go_frame
            refine tkN 18 hHeld ?_; try go_frame
            refine tkN 19 hHeld ?_; try go_frame
            refine tkN 20 hHeld ?_; try go_frame
            refine tkN 21 hHeld ?_; try go_frame
            refine tkN 22 hHeld ?_; try go_frame
            refine tkL 23 hHeld ?_; try go_frame
            refine wpAnyH_done (by kernel_rfl) ?_ _
            clear k0 HMK hHeld
            go_wp2
            go_roundw
            case rel => exact ⟨k + 1, by omega, by go_num, KZ.out, all_snoc HWK.out HF.out HC.out⟩
            case measure => simp [intOf]; omega
        · have hknI : ¬ (k : Int) < (n2 : Int) := by omega
          have HC : Hid (B.all (fun y => !clash (s, q, d, t, nn) y) = true) := by
            have := HWK.out
            rw [List.take_of_length_le (by rw [HN2.out]; omega)] at this
            exact this
          go_wp2
          go_roundw
          case rel => exact ⟨i + 1, by omega, by go_num, HBK.out, all_snoc (f := fun x => B.all (fun y => !clash x y)) HW.out HG.out HC.out⟩
          case measure => simp [intOf]; omega
    · have hinI : ¬ (i : Int) < (n1 : Int) := by omega
      have HC : Hid (aboveB A B = true) := by
        have := HW.out
        rw [List.take_of_length_le (by rw [HN1.out]; omega)] at this
        exact this
      go_wp2
      go_ret
      exact ⟨ret_bool HC.out.symm, HB.out⟩
end Go.Proofs.YtlmgojlffgkciaaGreat
