/-
  What the program's PostSum answers at every posting and currency, by a walk of its Go text: whatever the order in which the map is gone through.
  What the program's PostFair answers at every posting, by a walk of its Go text.
-/
import Derived.Test.YtfblpbihpmhgjaaDoorBp28
import Derived.Maps.RangeWalk
import Derived.Test.YtfblpbihpmhgjaaDoorBp12
namespace Go.Proofs.YtfblpbihpmhgjaaDoor
open Go.RowKit

theorem nodup_erase {ks : List (List UInt8)} {k j : List UInt8} (h : ks.Nodup) : j ∈ ks.erase k ↔ j ∈ ks ∧ ¬ j = k := by
  rw [List.Nodup.mem_erase_iff h]
  exact And.comm

theorem key_string {key : Value} {kl : Lit} (h : keyOf Tryd.prog 9 key = some kl) : ∃ x, key = Value.string x := by
  cases key <;> simp [keyOf, Tryd.underlying9, mapKey] at h
  exact ⟨_, rfl⟩
theorem elem_int {v : Value} {y : DataW Unit × List MemPlace} (h : plainElem (H := Unit) Tryd.prog 3 v = some y) : ∃ c, v = Value.int .i64 c := by
  obtain ⟨c, rfl, _, _⟩ := plainElem_int_inv Tryd.underlying3 h
  exact ⟨c, rfl⟩

set_option maxHeartbeats 1000000 in
theorem implSum (id cur : Int) (a : Option Addr) (len cap : Nat) (L : List LegD) (w : World) (hL : LegsAt w a len cap L) :
    Calls Tryd.prog 144 #[.agg #[.int .i64 id, .slice a len cap], .int .i64 cur] w fun e w' => e = .returned (.int .i64 (totY (yieldsOf id L cur))) ∧ Below w.heap.size w w' := by
  have hk0 : Below w.heap.size w (w.alloc (.cells #[.int .i64 id, .slice a len cap] 29)) := (Below.refl _ _).alloc (Nat.le_refl _) _
  have hL1 := hL.keep hk0
  have HY4 : Hid ((yieldsOf id L cur).length ≤ 4) := yieldsOf_len id L cur
  clear hL
  go_enter Tryd.func144, Tryd.ntmps144
  go_wp2_with (first
    | (go_at_call 163; refine (callsIn_wide.1 (sumsOf_in _ _ _ _ _ L _ hL1)).mono ?_; rintro e w1 ⟨rfl, ⟨D, hM, hown⟩, hb1⟩; simp only [World.size_alloc] at hown)
    | (at_range; refine wpList_range_own _ rfl _ 210 rfl 9 3 (Maps.string_keyed Tryd.underlying9) Tryd.underlying210 _ _ _ D rfl hown ?_; intro w2 hrg hg2 hs2))
  have hB1 : Below w.heap.size w w1 := hk0.trans (hb1.mono (by simp))
  have hB2 : Below w.heap.size w w2 := hB1.grown hg2 hB1.size (by simp)
  have hkl := keysY_len (yieldsOf id L cur)
  have h4 := HY4.out
  have HM : Hid (MapIs D (yieldsOf id L cur)) := hM
  obtain ⟨ys, hys⟩ : ∃ ys, ys = yieldsOf id L cur := ⟨_, rfl⟩
  rw [← hys] at HM hkl h4 hrg hown
  have HYS : Hid (ys = yieldsOf id L cur) := hys
  clear hys hM hL1 HY4 hk0 hb1 hg2 hs2 hown
  have hw1 : w.heap.size ≤ w1.heap.size := hB1.size
  clear hB1
  go_frame
  go_loopw [5] (fun m wr => ∃ (left : Lit → Bool) (cnt : Nat) (todo : List (List UInt8)) (acc : Int), wr.ranges Tryd.prog 9 (plainElem (H := Unit) Tryd.prog 3) (w.heap.size + 1 + 1) w1.heap.size ys.length D left cnt ∧ Below w.heap.size w wr ∧ m = .int .i64 acc ∧
      todo.Nodup ∧ todo.length ≤ 4 ∧ (∀ kl, left kl = true ↔ ∃ k, k ∈ todo ∧ kl = .string k) ∧ (∀ k, k ∈ todo → k ∈ keysY ys) ∧ acc + (todo.map (atY ys)).sum = totY ys) (fun _ wr => wr.rangeLeft (w.heap.size + 1 + 1) w1.heap.size)
  case atStart =>
    exact ⟨_, _, keysY ys, 0, hrg, hB2, rfl, nodup_keysY ys, by omega, HM.out.has, fun _ h => h, by rw [sum_keysY]; omega⟩
  case round =>
    clear hrg hB2
    obtain ⟨left, cnt, todo, acc, hrg, hB, rfl, hnd, htl, hleft, hin, hsum⟩ := hrel
    have hsb := sum_bd ys h4 todo
    have htb := sum_bd ys h4 (keysY ys)
    rw [sum_keysY] at htb
    have HSUM : Hid (acc + (todo.map (atY ys)).sum = totY ys) := hsum
    have hacc1 : -40000 ≤ acc := by omega
    have hacc2 : acc ≤ 40000 := by omega
    have HIN : Hid (∀ k, k ∈ todo → k ∈ keysY ys) := hin
    have HLEFT : Hid (∀ kl, left kl = true ↔ ∃ k, k ∈ todo ∧ kl = .string k) := hleft
    clear hsum hsb htb hin hleft
    go_wp2_with (at_next; refine wpList_next_ranges _ rfl _ rfl 9 (Maps.string_keyed Tryd.underlying9) _ Value.string (Value.int .i64) (fun key kl hk => key_string hk) (fun v y hv => elem_int hv) (w.heap.size + 1 + 1) w1.heap.size ys.length D left cnt rfl hrg ?_ ?_)
    · intro hc0 hl0
      have htn : todo = [] := by
        cases todo with
        | nil => rfl
        | cons k r => have := (HLEFT.out (.string k)).2 ⟨k, by simp, rfl⟩; rw [hl0] at this; cases this
      have HT : Hid (todo = []) := htn
      clear hl0 htn
      go_wp2
      go_ret
      refine ⟨ret_int ?_, hB⟩
      have := HSUM.out
      rw [HT.out] at this
      rw [← HYS.out]
      simpa using this
    · intro x c kl y1 y2 w3 cnt3 hkey hlk hv hat hrg3 hlt hg3 hs3 hen
      obtain ⟨k, hk, rfl⟩ := (HLEFT.out kl).1 hlk
      obtain ⟨c', ec, ey, hwc⟩ := plainElem_int_inv Tryd.underlying3 hv
      cases ec
      have hcv : atY ys k = c := by
        have h1 := hat .nil
        simp only [Prod.mk.injEq] at ey
        rw [HM.out.val k (HIN.out k hk) .nil, ey.1] at h1
        simpa using h1
      have hcb := atY_bd ys k
      rw [hcv] at hcb
      obtain ⟨hcb1, hcb2⟩ := hcb
      have hb1 : -4000 ≤ c := by omega
      have hb2 : c ≤ 4000 := by omega
      have hB3 : Below w.heap.size w w3 := hB.grown hg3 hB.size (fun k e => by cases e; exact hw1)
      have HCV : Hid (atY ys k = c) := hcv
      have HK : Hid (k ∈ todo) := hk
      have HRG3 : Hid (w3.ranges Tryd.prog 9 (plainElem (H := Unit) Tryd.prog 3) (w.heap.size + 1 + 1) w1.heap.size ys.length D (fun z => left z && !z.sameKey (.string k)) cnt3) := hrg3
      have HLT : Hid (cnt3 < cnt) := hlt
      clear hcb1 hcb2 hcv hk hat hv ey hwc hlk hkey hrg3 hlt hg3 hs3
      go_wp2
      go_roundw
      case rel =>
        refine ⟨_, cnt3, todo.erase k, acc + c, HRG3.out, hB3, rfl, hnd.erase k, Nat.le_trans List.length_erase_le htl, ?_, fun j hj => HIN.out j (List.mem_of_mem_erase hj), ?_⟩
        · intro kl
          constructor
          · intro h
            simp only [Bool.and_eq_true, Bool.not_eq_true'] at h
            obtain ⟨j, hj, rfl⟩ := (HLEFT.out kl).1 h.1
            refine ⟨j, (nodup_erase hnd).2 ⟨hj, fun e => ?_⟩, rfl⟩
            subst e
            rw [WideAt.sameKey_self (a := .string j) trivial] at h
            cases h.2
          · rintro ⟨j, hj, rfl⟩
            obtain ⟨h1, h2⟩ := (nodup_erase hnd).1 hj
            simp only [Bool.and_eq_true, Bool.not_eq_true']
            exact ⟨(HLEFT.out _).2 ⟨j, h1, rfl⟩, Maps.sameKey_ne (fun e => h2 (by cases e; rfl))⟩
        · have := HSUM.out
          rw [sum_erase (atY ys) HK.out, HCV.out] at this
          omega
      case measure =>
        rw [HRG3.out.left_eq, hrg.left_eq]
        exact HLT.out
end Go.Proofs.YtfblpbihpmhgjaaDoor

namespace Go.Proofs.YtfblpbihpmhgjaaDoor
open Go.RowKit

set_option maxHeartbeats 1000000 in
theorem implFair (id : Int) (a : Option Addr) (len cap : Nat) (L : List LegD) (w : World) (hL : LegsAt w a len cap L) :
    Calls Tryd.prog 120 #[.agg #[.int .i64 id, .slice a len cap]] w fun e w' => e = .returned (.bool (fairB id L)) ∧ Below w.heap.size w w' := by
  have HL : Hid (LegsAt w a len cap L) := hL
  have hk0 : Below w.heap.size w (w.alloc (.cells #[.int .i64 id, .slice a len cap] 29)) := (Below.refl _ _).alloc (Nat.le_refl _) _
  have hL0 := hL.keep hk0
  clear hL
  cases hp : postB id L with
  | false =>
    go_enter Tryd.func120, Tryd.ntmps120
    go_wp2_with (go_at_call 31; refine (implPostOk _ _ _ _ L _ hL0).mono ?_; rintro e w1 ⟨rfl, hb1⟩)
    go_ret
    exact ⟨ret_bool (fairB_bad hp).symm, hk0.trans (hb1.mono (by simp))⟩
  | true =>
    go_enter Tryd.func120, Tryd.ntmps120
    go_wp2_with (go_at_call 31; refine (implPostOk _ _ _ _ L _ hL0).mono ?_; rintro e w1 ⟨rfl, hb1⟩)
    have hk1 : Below w.heap.size w w1 := hk0.trans (hb1.mono (by simp))
    have hx1 : w1.cell? ⟨w.heap.size, 0, none⟩ = some (.int .i64 id) := cell_later hb1 (by simp)
    have hy1 : w1.cell? ⟨w.heap.size, 1, none⟩ = some (.slice a len cap) := cell_later hb1 (by simp)
    clear hb1 hL0 hk0
    go_loopw [3] (fun i wr => ∃ k : Nat, 1 ≤ k ∧ k ≤ 4 ∧ i = .int .i64 k ∧ Below w1.heap.size w1 wr ∧ ∀ j : Nat, 1 ≤ j → j < k → totY (yieldsOf id L j) = 0) (fun i _ => 4 - (intOf i).toNat)
    case atStart => exact ⟨1, Nat.le_refl _, by omega, rfl, Below.refl _ _, fun j h1 h2 => by omega⟩
    case round =>
      obtain ⟨k, hk1', hk, rfl, hb, hz⟩ := hrel
      have HZ : Hid (∀ j : Nat, 1 ≤ j → j < k → totY (yieldsOf id L j) = 0) := hz
      clear hz
      have hx := cell_later hb hx1
      have hy := cell_later hb hy1
      have hkr := hk1.trans (hb.mono hk1.size)
      have hLr := HL.out.keep hkr
      by_cases hlt : k ≤ 3
      · by_cases ht : totY (yieldsOf id L k) = 0
        · have HT : Hid (totY (yieldsOf id L k) = 0) := ht
          go_wp2_with (go_at_call 144; refine (implSum _ _ _ _ _ L _ hLr).mono ?_; rintro e w2 ⟨rfl, hb2⟩)
          go_roundw
          case rel => exact ⟨k + 1, by omega, by omega, by go_num, hb.trans (hb2.mono hb.size), upto_step HZ.out HT.out⟩
          case measure => simp [intOf]; omega
        · have HT : Hid (¬ totY (yieldsOf id L k) = 0) := ht
          have hne : (totY (yieldsOf id L k) != 0) = true := by simpa using ht
          go_wp2_with (go_at_call 144; refine (implSum _ _ _ _ _ L _ hLr).mono ?_; rintro e w2 ⟨rfl, hb2⟩)
          go_ret
          exact ⟨ret_bool (fairB_no hk1' hlt HT.out).symm, hkr.trans (hb2.mono hkr.size)⟩
      · go_wp2
        go_ret
        exact ⟨ret_bool (fairB_yes hp (fun j h1 h2 => HZ.out j h1 (by omega))).symm, hkr⟩

end Go.Proofs.YtfblpbihpmhgjaaDoor
