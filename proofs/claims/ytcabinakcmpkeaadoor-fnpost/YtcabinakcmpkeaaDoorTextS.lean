/-
  What the document's PostText answers at every posting, by a walk of its Go text.
-/
import Derived.Test.YtcabinakcmpkeaaDoorDecA
import Derived.Test.YtcabinakcmpkeaaDoorTextP
import Derived.Test.YtcabinakcmpkeaaDoorPostOkS
import Derived.Deep.RegionHeld3
import Derived.Deep.RegionWith
import Derived.Deep.DeepCutAuto
namespace Go.Proofs.YtcabinakcmpkeaaDoor
open Go.RowKit

theorem text_more {O C N s : ByteArray} {id c n : Int} {L : List LegD} {k : Nat} (hO : O = ⟨(Lib.itoa id ++ legsT (L.take k)).toArray⟩) (hC : C = decT c) (hN : N = decT n) (hg : L[k]? = some (s, c, n)) :
    Value.string (O ++ ⟨#[32]⟩ ++ s ++ ⟨#[58]⟩ ++ C ++ ⟨#[58]⟩ ++ N) = .string ⟨(Lib.itoa id ++ legsT (L.take (k + 1))).toArray⟩ := by
  subst hO hC hN
  rw [legsT_take hg]
  congr 1
  apply ByteArray.ext
  apply Array.toList_inj.1
  simp [legT, decT]

set_option maxHeartbeats 2000000 in
set_option maxRecDepth 100000 in
theorem specText (id : Int) (a : Option Addr) (len cap : Nat) (L : List LegD) (w : World) (hL : LegsAt w a len cap L) :
    Calls Tryd.prog 10 #[.agg #[.int .i64 id, .slice a len cap]] w fun e w' => e = .returned (.string (textB id L)) ∧ Below w.heap.size w w' := by
  have hk0 : Below w.heap.size w (w.alloc (.cells #[.int .i64 id, .slice a len cap] 29)) := (Below.refl _ _).alloc (Nat.le_refl _) _
  have hL0 := hL.keep hk0
  cases hp : postB id L with
  | false =>
    go_enter Tryd.func10, Tryd.ntmps10
    go_wp2_with (go_at_call 30; refine (specPostOk _ _ _ _ L _ hL0).mono ?_; rw [hp]; rintro e w1 ⟨rfl, hb1⟩)
    go_ret
    exact ⟨retD_str (textB_no hp).symm, hk0.trans (hb1.mono (by simp))⟩
  | true =>
    obtain ⟨i0, i1, l1, l4, hall⟩ := postB_all hp
    have hlen := hL.length
    obtain ⟨b, off, rfl, hbw⟩ := hL.form (by omega)
    have HALL : Hid (∀ l ∈ L, legB l = true) := hall
    have HLEN : Hid (L.length = len) := hlen
    have HL : Hid (LegsAt w (some ⟨b, off, none⟩) len cap L) := hL
    have hle : len ≤ 4 := by omega
    have HP : Hid (postB id L = true) := hp
    clear hall hlen hL l1 l4
    have hz := decT_size id (by omega) (by omega)
    go_enter Tryd.func10, Tryd.ntmps10
    go_wp2_with fail
    refine (specPostOk _ _ _ _ L _ hL0).mono ?_
    rw [hp]
    rintro e w1 ⟨rfl, hb1⟩
    have hx1 : w1.cell? ⟨w.heap.size, 0, none⟩ = some (.int .i64 id) := (hb1.cell (p := ⟨w.heap.size, 0, none⟩) (by simp)).trans (by simp)
    have hy1 : w1.cell? ⟨w.heap.size, 1, none⟩ = some (.slice (some ⟨b, off, none⟩) len cap) := (hb1.cell (p := ⟨w.heap.size, 1, none⟩) (by simp)).trans (by simp)
    have hB1 : Below w.heap.size w w1 := hk0.trans (hb1.mono (by simp))
    have hz1 : w.heap.size < w1.heap.size := by have := hb1.size; simp at this; omega
    clear hb1 hk0 hL0 hp
    go_wp2_with fail
    refine (dec_any id _ (by omega) (by omega)).mono ?_
    rintro e w2 ⟨rfl, hb2⟩
    have hx2 := cell_later hb2 hx1
    have hy2 := cell_later hb2 hy1
    have hB2 := hB1.trans (hb2.mono hB1.size)
    have hz2 : w.heap.size < w2.heap.size := by have := hb2.size; omega
    clear hb2 hB1 hx1 hy1 hz1
    go_wp2
    go_loopw [3, 4] (fun o i wr => ∃ k : Nat, k ≤ len ∧ i = .int .i64 k ∧ o = .string ⟨(Lib.itoa id ++ legsT (L.take k)).toArray⟩ ∧ Below w2.heap.size w2 wr) (fun _ i _ => len - (intOf i).toNat)
    case atStart => exact ⟨0, Nat.zero_le _, rfl, by simp [legsT, decT], Below.refl _ _⟩
    case round =>
      obtain ⟨k, hk, rfl, rfl, hb⟩ := hrel
      have hB : Below w.heap.size w wr := hB2.trans (hb.mono hB2.size)
      have hx := cell_later hb hx2
      have hy := cell_later hb hy2
      by_cases hlt : k < len
      · obtain ⟨s, c, n, hg, hlw, g0, g1, g2⟩ := HL.out.leg hB hbw k hlt
        have hlB := HALL.out _ (List.mem_of_getElem? hg)
        obtain ⟨_, p1, p2, p3, p4, p5⟩ := legB_parts hlB
        simp only at p1 p2 p3 p4 p5
        have HG : Hid (L[k]? = some (s, c, n)) := hg
        obtain ⟨O, hO⟩ : ∃ O : ByteArray, O = ⟨(Lib.itoa id ++ legsT (L.take k)).toArray⟩ := ⟨_, rfl⟩
        have HO : Hid (O = ⟨(Lib.itoa id ++ legsT (L.take k)).toArray⟩) := hO
        have hOz : O.size ≤ 240 := by
          rw [hO, str_size]
          have e1 := legsT_len (L.take k) (fun l hl => HALL.out l (List.mem_of_mem_take hl))
          have e2 := Lib.itoa_length_le id (by omega) (by omega)
          have e3 : (L.take k).length ≤ k := by simp; omega
          simp only [List.length_append]
          omega
        rw [← hO]
        clear hO hg hlw hlB
        have hc := decT_size c (by omega) (by omega)
        have hn := decT_size n (by omega) (by omega)
        obtain ⟨C, hC⟩ : ∃ C, C = decT c := ⟨_, rfl⟩
        obtain ⟨N, hN⟩ : ∃ N, N = decT n := ⟨_, rfl⟩
        have CC : Hid (∀ w', Calls Tryd.prog 37 #[.int .i64 c] w' fun e w'' => e = .returned (.string C) ∧ Below w'.heap.size w' w'') := fun w' => by rw [hC]; exact dec_any c w' (by omega) (by omega)
        have CN : Hid (∀ w', Calls Tryd.prog 37 #[.int .i64 n] w' fun e w'' => e = .returned (.string N) ∧ Below w'.heap.size w' w'') := fun w' => by rw [hN]; exact dec_any n w' (by omega) (by omega)
        have HC : Hid (C = decT c) := hC
        have HN : Hid (N = decT n) := hN
        rw [← hC] at hc
        rw [← hN] at hn
        clear hC hN
        have q1 : ¬ 9223372036854775807 < O.size + 1 := by omega
        have q2 : ¬ 9223372036854775807 < O.size + 1 + s.size := by omega
        have q3 : ¬ 9223372036854775807 < O.size + 1 + s.size + 1 := by omega
        have q4 : ¬ 9223372036854775807 < O.size + 1 + s.size + 1 + C.size := by omega
        have q5 : ¬ 9223372036854775807 < O.size + 1 + s.size + 1 + C.size + 1 := by omega
        have q6 : ¬ 9223372036854775807 < O.size + 1 + s.size + 1 + C.size + 1 + N.size := by omega
        have hltI : (k : Int) < (len : Int) := by omega
        have HMK : Hid (∀ w', Below wr.heap.size wr w' → (w'.cell? ⟨w.heap.size, 1, none⟩ = some (.slice (some ⟨b, off, none⟩) len cap) ∧ w'.cell? ⟨b, off + k * 3, none⟩ = some (.string s) ∧ w'.cell? ⟨b, off + k * 3 + 1, none⟩ = some (.int .i64 c) ∧ w'.cell? ⟨b, off + k * 3 + 2, none⟩ = some (.int .i64 n) ∧ Below wr.heap.size wr w')) := fun w' k' => ⟨cell_later k' hy, cell_later k' g0, cell_later k' g1, cell_later k' g2, k'⟩
        go_upto_region 7 with fail
        go_region_held3 (fun w' => w'.cell? ⟨w.heap.size, 1, none⟩ = some (.slice (some ⟨b, off, none⟩) len cap) ∧ w'.cell? ⟨b, off + k * 3, none⟩ = some (.string s) ∧ w'.cell? ⟨b, off + k * 3 + 1, none⟩ = some (.int .i64 c) ∧ w'.cell? ⟨b, off + k * 3 + 2, none⟩ = some (.int .i64 n) ∧ Below wr.heap.size wr w') (first | (with_reducible exact HMK.out _ ((Below.refl _ wr).drew)) | (with_reducible exact HMK.out _ k1) | (with_reducible exact HMK.out _ k3)) (first
          | (go_at_call 37; (with_reducible refine (CN.out _).mono ?_); rintro e w3 ⟨rfl, hb3⟩; have k3 : Below wr.heap.size wr w3 := k1.trans (hb3.mono k1.size))
          | (go_at_call 37; (with_reducible refine (CC.out _).mono ?_); rintro e w3 ⟨rfl, hb3⟩; have k1 : Below wr.heap.size wr w3 := ((Below.refl _ wr).drew).trans hb3))
        all_goals
          go_wp2
          go_roundw
          case rel => exact ⟨k + 1, by omega, by go_num, text_more HO.out HC.out HN.out HG.out, hb.trans (k3.mono hb.size)⟩
          case measure => simp [intOf]; omega
      · go_wp2
        go_ret
        have hfin : (⟨(Lib.itoa id ++ legsT (L.take k)).toArray⟩ : ByteArray) = textB id L := by
          rw [textB_yes HP.out, List.take_of_length_le (by rw [HLEN.out]; omega)]
          rfl
        exact ⟨retD_str hfin, hB⟩

end Go.Proofs.YtcabinakcmpkeaaDoor
