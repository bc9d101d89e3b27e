/-
  What the document's PostSum answers at every posting and currency, by a walk of its Go text.
  What the document's PostFair answers at every posting, by a walk of its Go text.
-/
import Derived.Test.YtfblpbihpmhgjaaDoorBp14
import Derived.Test.YtfblpbihpmhgjaaDoorBp12
namespace Go.Proofs.YtfblpbihpmhgjaaDoor
open Go.RowKit

set_option maxHeartbeats 1000000 in
theorem specSum (id cur : Int) (a : Option Addr) (len cap : Nat) (L : List LegD) (w : World) (hL : LegsAt w a len cap L) :
    Calls Tryd.prog 139 #[.agg #[.int .i64 id, .slice a len cap], .int .i64 cur] w fun e w' => e = .returned (.int .i64 (totY (yieldsOf id L cur))) ∧ Below w.heap.size w w' := by
  have hr := hL.room
  have hbg := hL.big
  unfold maxLen at hbg
  have HLEN : Hid (L.length = len) := hL.length
  have HL : Hid (LegsAt w a len cap L) := hL
  have hk0 : Below w.heap.size w (w.alloc (.cells #[.int .i64 id, .slice a len cap] 29)) := (Below.refl _ _).alloc (Nat.le_refl _) _
  have hL0 := hL.keep hk0
  clear hL
  cases hp : postB id L with
  | false =>
    go_enter Tryd.func139, Tryd.ntmps139
    go_wp2_with (go_at_call 32; refine (specPostOk _ _ _ _ L _ hL0).mono ?_; rintro e w1 ⟨rfl, hb1⟩)
    go_ret
    exact ⟨ret_int (by simp [yieldsOf, hp, totY]), hk0.trans (hb1.mono (by simp))⟩
  | true =>
    have hall := postB_legs hp
    have h4 := postB_len hp
    have HALL : Hid (∀ l ∈ L, legB l = true) := hall
    have H4 : Hid (L.length ≤ 4) := h4
    have HY : Hid (yieldsOf id L cur = selY cur L) := by simp [yieldsOf, hp, Hid]
    clear hall h4
    go_enter Tryd.func139, Tryd.ntmps139
    go_wp2_with (go_at_call 32; refine (specPostOk _ _ _ _ L _ hL0).mono ?_; rintro e w1 ⟨rfl, hb1⟩; have hy1 := (hb1.cell (p := ⟨w.heap.size, 1, none⟩) (by simp)).trans (World.cell?_alloc_new _ _ _ _); have hk1 := hk0.trans (hb1.mono (by simp)))
    have hy1' : w1.cell? ⟨w.heap.size, 1, none⟩ = some (.slice a len cap) := hy1
    clear hy1 hb1 hL0
    go_loop [5, 6] (fun m i => ∃ k : Nat, k ≤ len ∧ i = .int .i64 k ∧ m = .int .i64 (totY (selY cur (L.take k)))) (fun _ i => len - (intOf i).toNat)
    case atStart => exact ⟨0, Nat.zero_le _, rfl, rfl⟩
    case round =>
      obtain ⟨k, hk, rfl, rfl⟩ := hrel
      have hab := totY_bd (selY cur (L.take k))
      have hl4 := selY_len4 cur H4.out k
      obtain ⟨A0, hA0⟩ : ∃ A0, A0 = totY (selY cur (L.take k)) := ⟨_, rfl⟩
      rw [← hA0] at hab ⊢
      have HA0 : Hid (A0 = totY (selY cur (L.take k))) := hA0
      clear hA0
      obtain ⟨hab1, hab2⟩ := hab
      have hb1 : -4000 ≤ A0 := by omega
      have hb2 : A0 ≤ 4000 := by omega
      clear hab1 hab2 hl4
      by_cases hlt : k < len
      · obtain ⟨b, off, rfl, hbb⟩ := HL.out.form (by omega)
        obtain ⟨s, c, n, hg, hlw, g0, g1, g2⟩ := HL.out.leg hk1 hbb k hlt
        have hlb : legB (s, c, n) = true := HALL.out _ (List.mem_of_getElem? hg)
        have hnb := numY_bd ⟨(s, c, n), hlb⟩
        simp only [numY] at hnb
        obtain ⟨hn1, hn2⟩ := hnb
        have HG : Hid (L[k]? = some (s, c, n)) := hg
        have HLB : Hid (legB (s, c, n) = true) := hlb
        clear hg hlw hlb
        by_cases hc : c = cur
        · subst hc
          go_wp2
          go_round
          case rel => exact ⟨k + 1, by omega, by go_num, by rw [selY_take_yes HG.out HLB.out rfl, totY_snoc, ← HA0.out]; rfl⟩
          case measure => simp [intOf]; omega
        · have hce : (c == cur) = false := by simpa using hc
          have HC : Hid (¬ c = cur) := hc
          clear hc
          go_wp2
          go_round
          case rel => exact ⟨k + 1, by omega, by go_num, by rw [selY_take_no HG.out HC.out, ← HA0.out]⟩
          case measure => simp [intOf]; omega
      · go_wp2
        go_ret
        exact ⟨ret_int (by rw [HA0.out, HY.out, List.take_of_length_le (by rw [HLEN.out]; omega)]), hk1⟩

end Go.Proofs.YtfblpbihpmhgjaaDoor

namespace Go.Proofs.YtfblpbihpmhgjaaDoor
open Go.RowKit

set_option maxHeartbeats 1000000 in
theorem specFair (id : Int) (a : Option Addr) (len cap : Nat) (L : List LegD) (w : World) (hL : LegsAt w a len cap L) :
    Calls Tryd.prog 115 #[.agg #[.int .i64 id, .slice a len cap]] w fun e w' => e = .returned (.bool (fairB id L)) ∧ Below w.heap.size w w' := by
  have HL : Hid (LegsAt w a len cap L) := hL
  have hk0 : Below w.heap.size w (w.alloc (.cells #[.int .i64 id, .slice a len cap] 29)) := (Below.refl _ _).alloc (Nat.le_refl _) _
  clear hL
  go_enter Tryd.func115, Tryd.ntmps115
  go_wp2
  go_loopw [3] (fun i wr => ∃ k : Nat, 1 ≤ k ∧ k ≤ 4 ∧ i = .int .i64 k ∧ Below (w.heap.size + 1) (w.alloc (.cells #[.int .i64 id, .slice a len cap] 29)) wr ∧ ∀ j : Nat, 1 ≤ j → j < k → totY (yieldsOf id L j) = 0) (fun i _ => 4 - (intOf i).toNat)
  case atStart => exact ⟨1, Nat.le_refl _, by omega, rfl, Below.refl _ _, fun j h1 h2 => by omega⟩
  case round =>
    obtain ⟨k, hk1', hk, rfl, hb, hz⟩ := hrel
    have HZ : Hid (∀ j : Nat, 1 ≤ j → j < k → totY (yieldsOf id L j) = 0) := hz
    clear hz
    have hx : wr.cell? ⟨w.heap.size, 0, none⟩ = some (.int .i64 id) := (hb.cell (p := ⟨w.heap.size, 0, none⟩) (by simp)).trans (by simp)
    have hy : wr.cell? ⟨w.heap.size, 1, none⟩ = some (.slice a len cap) := (hb.cell (p := ⟨w.heap.size, 1, none⟩) (by simp)).trans (by simp)
    have hsw := hb.size
    simp at hsw
    have hkr := hk0.trans (hb.mono (by omega))
    have hLr := HL.out.keep hkr
    by_cases hlt : k ≤ 3
    · by_cases ht : totY (yieldsOf id L k) = 0
      · have HT : Hid (totY (yieldsOf id L k) = 0) := ht
        go_wp2_with (go_at_call 139; refine (specSum _ _ _ _ _ L _ hLr).mono ?_; rintro e w2 ⟨rfl, hb2⟩)
        go_roundw
        case rel => exact ⟨k + 1, by omega, by omega, by go_num, hb.trans (hb2.mono (by omega)), upto_step HZ.out HT.out⟩
        case measure => simp [intOf]; omega
      · have HT : Hid (¬ totY (yieldsOf id L k) = 0) := ht
        have hne : (totY (yieldsOf id L k) != 0) = true := by simpa using ht
        go_wp2_with (go_at_call 139; refine (specSum _ _ _ _ _ L _ hLr).mono ?_; rintro e w2 ⟨rfl, hb2⟩)
        go_ret
        exact ⟨ret_bool (fairB_no hk1' hlt HT.out).symm, hkr.trans (hb2.mono hkr.size)⟩
    · go_wp2_with (go_at_call 32; refine (specPostOk _ _ _ _ L _ hLr).mono ?_; rintro e w2 ⟨rfl, hb2⟩)
      go_ret
      exact ⟨ret_bool (fairB_all (fun j h1 h2 => HZ.out j h1 (by omega))).symm, hkr.trans (hb2.mono hkr.size)⟩

end Go.Proofs.YtfblpbihpmhgjaaDoor
