/-
  What the document's l9Dec writes of every number: its numeral; by a walk of its Go text.
  What the document's FrameText answers of every list of entries, by a walk of its Go text.
  Contracts of the library's strconv package at this program, laid by the kit's own command.
-/
import Derived.Lib.SlBytesRow
import Derived.Lib.ItoaMem
import Derived.Lib.ItoaLen
import Derived.Test.YtapjkbpfhmbfaaaGreatDoorSo01
import Derived.Test.YtapjkbpfhmbfaaaGreatDoorSo07
import Derived.Test.YtapjkbpfhmbfaaaGreatDoorSo00
import Derived.Shelf.Strconv.Itoa3
import Derived.Test.YtapjkbpfhmbfaaaGreatDoorProg
namespace Go.Proofs.YtapjkbpfhmbfaaaGreatDoor
open Go.RowKit
set_option maxRecDepth 100000
set_option maxHeartbeats 2000000
def decT (n : Int) : ByteArray := ⟨(Lib.itoa n).toArray⟩
theorem decT_size (n : Int) (h0 : -9223372036854775808 ≤ n) (h1 : n ≤ 9223372036854775807) : (decT n).size ≤ 21 := by
  have := Lib.itoa_length_le n h0 h1
  show (Lib.itoa n).toArray.size ≤ 21
  simpa using this
theorem decT_min : decT (-9223372036854775808) = ⟨#[45, 57, 50, 50, 51, 51, 55, 50, 48, 51, 54, 56, 53, 52, 55, 55, 53, 56, 48, 56]⟩ := by
  unfold decT
  simp [Lib.itoa, Lib.decDigits]
theorem decT_neg (u : Nat) (h : 1 ≤ u) : decT (-(u : Int)) = ⟨#[45]⟩ ++ decT u := by
  unfold decT
  rw [Lib.itoa_neg u h, Lib.itoa_nonneg]
  apply ByteArray.ext
  apply Array.toList_inj.1
  simp
def digB (d : Nat) : UInt8 := UInt8.ofNat (48 + d)
theorem digB_nat (d : Nat) (h : d < 10) : ((digB d).toNat : Int) = 48 + d := by
  unfold digB
  simp
  omega
theorem retD_str {a b : ByteArray} (h : a = b) : Ending.returned (.string a) = .returned (.string b) := by rw [h]
theorem digs_cons {m : Nat} (h : ¬ m < 10) (l : List UInt8) : Lib.decDigits (m / 10) ++ (digB (m % 10) :: l) = Lib.decDigits m ++ l := by
  unfold digB
  rw [Lib.decDigits.eq_1 m, dif_neg h]
  simp
theorem digs_last {m : Nat} (h : m < 10) (l : List UInt8) : (digB m :: l) = Lib.decDigits m ++ l := by
  unfold digB
  rw [Lib.decDigits_one h]
  rfl
theorem one_app (c : UInt8) (l : List UInt8) : (⟨#[c]⟩ : ByteArray) ++ ⟨l.toArray⟩ = ⟨(c :: l).toArray⟩ := by
  apply ByteArray.ext
  apply Array.toList_inj.1
  simp
theorem dec_pos (u : Nat) (w : World) (hu : (u : Int) ≤ 9223372036854775807) :
    Calls Tryz.prog 164 #[.int .i64 u] w fun e w' => e = .returned (.string (decT u)) ∧ Below w.heap.size w w' := by
  have hcv : ∀ (w : World) (d : Nat), d < 10 → (convert 142 9 (.slice (some ⟨w.heap.size, 0, none⟩) 1 1)).run Tryz.prog (w.alloc (.cells #[.int .u8 (48 + (d : Int))] 5)) = .ok (.string ⟨#[digB d]⟩) (w.alloc (.cells #[.int .u8 (48 + (d : Int))] 5)) := by
    intro w d hd
    exact Lib.run_convert_whole _ 142 5 9 Tryz.underlying142 Tryz.underlying5 Tryz.underlying9 w.heap.size 0 ⟨#[digB d]⟩ (fun i hi => by
      have hi0 : i = 0 := by
        have : i < 1 := hi
        omega
      subst hi0
      show _ = some (Value.int .u8 ((digB d).toNat : Int))
      rw [digB_nat d hd]
      simp) 1
  go_enter Tryz.func164, Tryz.ntmps164
  go_wp2
  go_loopw [0, 3] (fun i o wr => ∃ (m : Nat) (l : List UInt8), i = .int .i64 m ∧ o = .string ⟨l.toArray⟩ ∧ m ≤ u ∧ Lib.decDigits m ++ l = Lib.decDigits u ∧ Below w.heap.size w wr) (fun i _ _ => (intOf i).toNat)
  case atStart => exact ⟨u, [], rfl, rfl, Nat.le_refl _, by simp, Below.refl _ _⟩
  case round =>
    obtain ⟨m, l, rfl, rfl, hm, hl, hb⟩ := hrel
    have hlen : l.length ≤ 21 := by
      have h1 := congrArg List.length hl
      have h2 := Lib.itoa_length_le u (by omega) hu
      rw [Lib.itoa_nonneg] at h2
      simp at h1
      omega
    have hsz : (⟨l.toArray⟩ : ByteArray).size = l.length := by show l.toArray.size = _; simp
    have HL : Hid (Lib.decDigits m ++ l = Lib.decDigits u) := hl
    have HSZ : Hid ((⟨l.toArray⟩ : ByteArray).size = l.length) := hsz
    have g1 : ¬ 9223372036854775807 < 1 + (⟨l.toArray⟩ : ByteArray).size := by rw [hsz]; omega
    clear hl hsz
    by_cases h9 : (9 : Int) < m
    · have h1 := hcv wr (m % 10) (by omega)
      rw [show ((m % 10 : Nat) : Int) = (m : Int) % 10 by omega] at h1
      go_wp2
      go_roundw
      case rel => exact ⟨m / 10, digB (m % 10) :: l, by simp, by rw [one_app], by omega, (digs_cons (by omega) l).trans HL.out, hb.alloc hb.size _⟩
      case measure => simp [intOf]; omega
    · have h1 := hcv wr m (by omega)
      go_wp2
      go_ret
      have hfin : (⟨(digB m :: l).toArray⟩ : ByteArray) = decT u := by
        rw [digs_last (by omega) l, HL.out]
        unfold decT
        rw [Lib.itoa_nonneg]
      exact ⟨retD_str hfin, hb.alloc hb.size _⟩
theorem dec_any (n : Int) (w : World) (h0 : -9223372036854775808 ≤ n) (h1 : n ≤ 9223372036854775807) :
    Calls Tryz.prog 164 #[.int .i64 n] w fun e w' => e = .returned (.string (decT n)) ∧ Below w.heap.size w w' := by
  by_cases hp : 0 ≤ n
  · obtain ⟨u, rfl⟩ : ∃ u : Nat, n = u := ⟨n.toNat, by omega⟩
    exact dec_pos u w h1
  · by_cases hm : n < -9223372036854775807
    · obtain rfl : n = -9223372036854775808 := by omega
      go_enter Tryz.func164, Tryz.ntmps164
      go_wp2
      go_ret
      exact ⟨retD_str decT_min.symm, Below.refl _ _⟩
    · obtain ⟨u, rfl⟩ : ∃ u : Nat, n = -(u : Int) := ⟨(-n).toNat, by omega⟩
      have hz := decT_size u (by omega) (by omega)
      have g1 : ¬ 9223372036854775807 < 1 + (decT u).size := by omega
      have hd : -(u : Int) < 0 := by omega
      have hu0 : ¬ (u : Int) = 0 := by omega
      clear hp
      go_enter Tryz.func164, Tryz.ntmps164
      go_wp2_with fail
      refine (dec_pos u _ (by omega)).mono ?_
      rintro e w1 ⟨rfl, hb1⟩
      go_wp2
      go_ret
      exact ⟨retD_str (decT_neg u (by omega)).symm, hb1⟩
end Go.Proofs.YtapjkbpfhmbfaaaGreatDoor

namespace Go.Proofs.YtapjkbpfhmbfaaaGreatDoor
open Go.RowKit
set_option maxRecDepth 100000
set_option maxHeartbeats 2000000
theorem frame_more {O Q D N Z s t : ByteArray} {q d n : Int} {L : List EntD} {k : Nat} (hO : O = ⟨(entsT (L.take k)).toArray⟩) (hQ : Q = decT q) (hD : D = decT d) (hN : N = decT n) (hZ : Z = decT (t.size : Int)) (hg : L[k]? = some (s, q, d, t, n)) :
    Value.string (O ++ s ++ ⟨#[32]⟩ ++ Q ++ ⟨#[32]⟩ ++ D ++ ⟨#[32]⟩ ++ N ++ ⟨#[32]⟩ ++ Z ++ ⟨#[32]⟩ ++ t) = .string ⟨(entsT (L.take (k + 1))).toArray⟩ := by
  subst hO hQ hD hN hZ
  rw [entsT_take hg]
  congr 1
  apply ByteArray.ext
  apply Array.toList_inj.1
  simp [entT, decT]
theorem frame_end {O Z : ByteArray} {l : List UInt8} (hO : O = ⟨l.toArray⟩) (hZ : Z = decT (l.length : Int)) : Z ++ ⟨#[32]⟩ ++ O ++ ⟨#[10]⟩ = ⟨(Lib.itoa (l.length : Int) ++ 32 :: (l ++ [10])).toArray⟩ := by
  subst hO hZ
  apply ByteArray.ext
  apply Array.toList_inj.1
  simp [decT]
theorem specFrame (a : Option Addr) (len cap : Nat) (L : List EntD) (w : World) (hL : EntsAt w a len cap L) :
    Calls Tryz.prog 115 #[.slice a len cap] w fun e w' => e = .returned (.string (frameB L)) ∧ Below w.heap.size w w' := by
  cases hp : doneB L with
  | false =>
    go_enter Tryz.func115, Tryz.ntmps115
    go_wp2_with (go_at_call 163; refine (specDone _ _ _ L _ hL).mono ?_; rw [hp]; rintro e w1 ⟨rfl, hb1⟩)
    go_ret
    exact ⟨retD_str (frameB_no hp).symm, hb1⟩
  | true =>
    obtain ⟨l1, l12, hall⟩ := done_parts hp
    have hlen := hL.length
    obtain ⟨b, off, rfl, hbb⟩ := hL.form (by omega)
    have HALL : Hid (∀ e ∈ L, entOk e = true) := hall
    have HLEN : Hid (L.length = len) := hlen
    have HL : Hid (EntsAt w (some ⟨b, off, none⟩) len cap L) := hL
    have hle : len ≤ 12 := by omega
    have hbl := hL.room
    have hbc := hL.big
    unfold maxLen at hbc
    have HP : Hid (doneB L = true) := hp
    clear hall hlen l1 l12
    go_enter Tryz.func115, Tryz.ntmps115
    go_wp2_with fail
    refine (specDone _ _ _ L _ hL).mono ?_
    rw [hp]
    rintro e w1 ⟨rfl, hb1⟩
    clear hL hp
    go_wp2
    go_loopw [3, 4] (fun o i wr => ∃ k : Nat, k ≤ len ∧ i = .int .i64 k ∧ o = .string ⟨(entsT (L.take k)).toArray⟩ ∧ Below w.heap.size w wr) (fun _ i _ => len - (intOf i).toNat)
    case atStart => exact ⟨0, Nat.zero_le _, rfl, by simp [entsT], hb1⟩
    case round =>
      obtain ⟨k, hk, rfl, rfl, hb⟩ := hrel
      obtain ⟨O, hO⟩ : ∃ O : ByteArray, O = ⟨(entsT (L.take k)).toArray⟩ := ⟨_, rfl⟩
      have HO : Hid (O = ⟨(entsT (L.take k)).toArray⟩) := hO
      have hOz : O.size ≤ 1920 := by
        rw [hO, str_size]
        have e1 := entsT_len (L.take k) (fun l hl => HALL.out l (List.mem_of_mem_take hl))
        have e3 : (L.take k).length ≤ k := by simp; omega
        omega
      rw [← hO]
      clear hO
      by_cases hlt : k < len
      · obtain ⟨s, q, d, t, n, hg, hlw, g0, g1, g2, g3, g4⟩ := HL.out.ent hb hbb k hlt
        have hlB := HALL.out _ (List.mem_of_getElem? hg)
        obtain ⟨p1, p2, p3, p4, p5, p6, p7, p8⟩ := ent_parts hlB
        simp only at p1 p2 p3 p4 p5 p6 p7 p8
        have HG : Hid (L[k]? = some (s, q, d, t, n)) := hg
        clear hg hlw hlB
        obtain ⟨Q, hQ⟩ : ∃ x, x = decT q := ⟨_, rfl⟩
        have CQ : Hid (∀ w', Calls Tryz.prog 164 #[.int .i64 q] w' fun e w'' => e = .returned (.string Q) ∧ Below w'.heap.size w' w'') := fun w' => by rw [hQ]; exact dec_any q w' (by omega) (by omega)
        have EQ : Hid (Q = decT q) := hQ
        have zQ : Q.size ≤ 21 := by rw [hQ]; exact decT_size q (by omega) (by omega)
        clear hQ
        obtain ⟨D, hD⟩ : ∃ x, x = decT d := ⟨_, rfl⟩
        have CD : Hid (∀ w', Calls Tryz.prog 164 #[.int .i64 d] w' fun e w'' => e = .returned (.string D) ∧ Below w'.heap.size w' w'') := fun w' => by rw [hD]; exact dec_any d w' (by omega) (by omega)
        have ED : Hid (D = decT d) := hD
        have zD : D.size ≤ 21 := by rw [hD]; exact decT_size d (by omega) (by omega)
        clear hD
        obtain ⟨N, hN⟩ : ∃ x, x = decT n := ⟨_, rfl⟩
        have CN : Hid (∀ w', Calls Tryz.prog 164 #[.int .i64 n] w' fun e w'' => e = .returned (.string N) ∧ Below w'.heap.size w' w'') := fun w' => by rw [hN]; exact dec_any n w' (by omega) (by omega)
        have EN : Hid (N = decT n) := hN
        have zN : N.size ≤ 21 := by rw [hN]; exact decT_size n (by omega) (by omega)
        clear hN
        obtain ⟨Z, hZ⟩ : ∃ x, x = decT (t.size : Int) := ⟨_, rfl⟩
        have CZ : Hid (∀ w', Calls Tryz.prog 164 #[.int .i64 (t.size : Int)] w' fun e w'' => e = .returned (.string Z) ∧ Below w'.heap.size w' w'') := fun w' => by rw [hZ]; exact dec_any (t.size : Int) w' (by omega) (by omega)
        have EZ : Hid (Z = decT (t.size : Int)) := hZ
        have zZ : Z.size ≤ 21 := by rw [hZ]; exact decT_size (t.size : Int) (by omega) (by omega)
        clear hZ
        have q0 : ¬ 9223372036854775807 < O.size + s.size := by omega
        have q1 : ¬ 9223372036854775807 < O.size + s.size + 1 := by omega
        have q2 : ¬ 9223372036854775807 < O.size + s.size + 1 + Q.size := by omega
        have q3 : ¬ 9223372036854775807 < O.size + s.size + 1 + Q.size + 1 := by omega
        have q4 : ¬ 9223372036854775807 < O.size + s.size + 1 + Q.size + 1 + D.size := by omega
        have q5 : ¬ 9223372036854775807 < O.size + s.size + 1 + Q.size + 1 + D.size + 1 := by omega
        have q6 : ¬ 9223372036854775807 < O.size + s.size + 1 + Q.size + 1 + D.size + 1 + N.size := by omega
        have q7 : ¬ 9223372036854775807 < O.size + s.size + 1 + Q.size + 1 + D.size + 1 + N.size + 1 := by omega
        have q8 : ¬ 9223372036854775807 < O.size + s.size + 1 + Q.size + 1 + D.size + 1 + N.size + 1 + Z.size := by omega
        have q9 : ¬ 9223372036854775807 < O.size + s.size + 1 + Q.size + 1 + D.size + 1 + N.size + 1 + Z.size + 1 := by omega
        have q10 : ¬ 9223372036854775807 < O.size + s.size + 1 + Q.size + 1 + D.size + 1 + N.size + 1 + Z.size + 1 + t.size := by omega
        obtain ⟨W, hW⟩ : ∃ W, W = wr.alloc (.cells #[.string s, .int .i64 q, .int .i64 d, .string t, .int .i64 n] 87) := ⟨_, rfl⟩
        obtain ⟨X, hX⟩ : ∃ X, X = wr.heap.size := ⟨_, rfl⟩
        have x0 : W.cell? ⟨X, 0, none⟩ = some (.string s) := by rw [hW, hX]; simp
        have x1 : W.cell? ⟨X, 1, none⟩ = some (.int .i64 q) := by rw [hW, hX]; simp
        have x2 : W.cell? ⟨X, 2, none⟩ = some (.int .i64 d) := by rw [hW, hX]; simp
        have x3 : W.cell? ⟨X, 3, none⟩ = some (.string t) := by rw [hW, hX]; simp
        have x4 : W.cell? ⟨X, 4, none⟩ = some (.int .i64 n) := by rw [hW, hX]; simp
        have kW : Below wr.heap.size wr W := by rw [hW]; exact (Below.refl _ _).alloc (Nat.le_refl _) _
        have hbW : Below w.heap.size w W := hb.trans (kW.mono hb.size)
        have HMK : Hid (∀ w', Below W.heap.size W w' → (w'.cell? ⟨X, 0, none⟩ = some (.string s) ∧ w'.cell? ⟨X, 1, none⟩ = some (.int .i64 q) ∧ w'.cell? ⟨X, 2, none⟩ = some (.int .i64 d) ∧ w'.cell? ⟨X, 3, none⟩ = some (.string t) ∧ w'.cell? ⟨X, 4, none⟩ = some (.int .i64 n) ∧ Below W.heap.size W w')) := fun w' k' => ⟨cell_later k' x0, cell_later k' x1, cell_later k' x2, cell_later k' x3, cell_later k' x4, k'⟩
        go_upto_region 8 with fail
        rw [← hW, ← hX]
        clear hW hX kW g0 g1 g2 g3 g4
        have k0 : Below W.heap.size W W.drew := (Below.refl _ W).drew
        go_region_held3 (fun w' => w'.cell? ⟨X, 0, none⟩ = some (.string s) ∧ w'.cell? ⟨X, 1, none⟩ = some (.int .i64 q) ∧ w'.cell? ⟨X, 2, none⟩ = some (.int .i64 d) ∧ w'.cell? ⟨X, 3, none⟩ = some (.string t) ∧ w'.cell? ⟨X, 4, none⟩ = some (.int .i64 n) ∧ Below W.heap.size W w') (first | (with_reducible exact HMK.out _ k0) | (with_reducible exact HMK.out _ k1) | (with_reducible exact HMK.out _ k2) | (with_reducible exact HMK.out _ k3) | (with_reducible exact HMK.out _ k4)) (first
          | (go_at_call 164; (with_reducible refine (CZ.out _).mono ?_); rintro e v4 ⟨rfl, hb4⟩; have k4 : Below W.heap.size W v4 := k3.trans (hb4.mono k3.size))
          | (go_at_call 164; (with_reducible refine (CN.out _).mono ?_); rintro e v3 ⟨rfl, hb3⟩; have k3 : Below W.heap.size W v3 := k2.trans (hb3.mono k2.size))
          | (go_at_call 164; (with_reducible refine (CD.out _).mono ?_); rintro e v2 ⟨rfl, hb2⟩; have k2 : Below W.heap.size W v2 := k1.trans (hb2.mono k1.size))
          | (go_at_call 164; (with_reducible refine (CQ.out _).mono ?_); rintro e v1 ⟨rfl, hb1⟩; have k1 : Below W.heap.size W v1 := k0.trans (hb1.mono k0.size)))
        all_goals
          go_wp2
          go_roundw
          case rel => exact ⟨k + 1, by omega, by go_num, frame_more HO.out EQ.out ED.out EN.out EZ.out HG.out, hbW.trans (k4.mono hbW.size)⟩
          case measure => simp [intOf]; omega
      · have hkn : k = len := by omega
        have hfull : entsT (L.take k) = entsT L := by rw [List.take_of_length_le (by rw [HLEN.out]; omega)]
        have HO' : Hid (O = ⟨(entsT L).toArray⟩) := by show O = _; rw [HO.out, hfull]
        have hsz : (O.size : Int) = ((entsT L).length : Int) := by rw [HO'.out, str_size]
        have HSZ : Hid ((O.size : Int) = ((entsT L).length : Int)) := hsz
        clear hfull hsz
        obtain ⟨Z, hZ⟩ : ∃ x, x = decT (O.size : Int) := ⟨_, rfl⟩
        have CZ : Hid (∀ w', Calls Tryz.prog 164 #[.int .i64 (O.size : Int)] w' fun e w'' => e = .returned (.string Z) ∧ Below w'.heap.size w' w'') := fun w' => by rw [hZ]; exact dec_any (O.size : Int) w' (by omega) (by omega)
        have EZ : Hid (Z = decT (O.size : Int)) := hZ
        have zZ : Z.size ≤ 21 := by rw [hZ]; exact decT_size (O.size : Int) (by omega) (by omega)
        clear hZ
        have q1 : ¬ 9223372036854775807 < Z.size + 1 := by omega
        have q2 : ¬ 9223372036854775807 < Z.size + 1 + O.size := by omega
        have q3 : ¬ 9223372036854775807 < Z.size + 1 + O.size + 1 := by omega
        go_wp2_with fail
        refine (CZ.out _).mono ?_
        rintro e w2 ⟨rfl, hb2⟩
        go_wp2
        go_ret
        exact ⟨retD_str (by rw [frameB_yes HP.out]; exact frame_end HO'.out (by rw [EZ.out, HSZ.out])), hb.trans (hb2.mono hb.size)⟩
end Go.Proofs.YtapjkbpfhmbfaaaGreatDoor

namespace Go.Proofs.YtapjkbpfhmbfaaaGreatDoor
open Go.Shelf
def Tryz.lays171_ren : Go.Shelf.Ren := ⟨fun | 171 => 169 | 243 => 212 | 246 => 253 | 283 => 273 | 284 => 274 | 285 => 275 | 286 => 276 | 129 => 286 | 317 => 296 | 318 => 297 | 319 => 298 | 320 => 299 | 337 => 316 | 338 => 317 | n => n, fun | 3 => 3 | 9 => 9 | 2 => 2 | 4 => 4 | 171 => 296 | 0 => 0 | 53 => 297 | 37 => 142 | 5 => 5 | 173 => 300 | 212 => 316 | 51 => 310 | 20 => 20 | 213 => 317 | 46 => 282 | 232 => 343 | 233 => 344 | n => n, fun | 17 => 0 | 18 => 4 | 19 => 5 | n => n⟩
theorem Tryz.lays171 : Go.Proofs.LaysM.n171 Tryz.prog Tryz.lays171_ren := {
  mixed := by kernel_rfl
  f129 := Tryz.func286.trans (congrArg some (by kernel_rfl))
  f171 := Tryz.func169.trans (congrArg some (by kernel_rfl))
  f243 := Tryz.func212.trans (congrArg some (by kernel_rfl))
  f246 := Tryz.func253.trans (congrArg some (by kernel_rfl))
  f283 := Tryz.func273.trans (congrArg some (by kernel_rfl))
  f284 := Tryz.func274.trans (congrArg some (by kernel_rfl))
  f285 := Tryz.func275.trans (congrArg some (by kernel_rfl))
  f286 := Tryz.func276.trans (congrArg some (by kernel_rfl))
  f317 := Tryz.func296.trans (congrArg some (by kernel_rfl))
  f318 := Tryz.func297.trans (congrArg some (by kernel_rfl))
  f319 := Tryz.func298.trans (congrArg some (by kernel_rfl))
  f320 := Tryz.func299.trans (congrArg some (by kernel_rfl))
  f337 := Tryz.func316.trans (congrArg some (by kernel_rfl))
  f338 := Tryz.func317.trans (congrArg some (by kernel_rfl))
  t0 := Tryz.underlying0
  a0 := Tryz.isAgg0
  z0 := Tryz.sizeOf0
  v0 := Tryz.zeroValue0
  t2 := Tryz.underlying2
  a2 := Tryz.isAgg2
  z2 := Tryz.sizeOf2
  v2 := Tryz.zeroValue2
  t3 := Tryz.underlying3
  a3 := Tryz.isAgg3
  z3 := Tryz.sizeOf3
  v3 := Tryz.zeroValue3
  t4 := Tryz.underlying4
  a4 := Tryz.isAgg4
  z4 := Tryz.sizeOf4
  v4 := Tryz.zeroValue4
  t5 := Tryz.underlying5
  a5 := Tryz.isAgg5
  z5 := Tryz.sizeOf5
  v5 := Tryz.zeroValue5
  t9 := Tryz.underlying9
  a9 := Tryz.isAgg9
  z9 := Tryz.sizeOf9
  v9 := Tryz.zeroValue9
  t20 := Tryz.underlying20
  a20 := Tryz.isAgg20
  z20 := Tryz.sizeOf20
  v20 := Tryz.zeroValue20
  t37 := Tryz.underlying142
  a37 := Tryz.isAgg142
  z37 := Tryz.sizeOf142
  v37 := Tryz.zeroValue142
  t46 := Tryz.underlying282
  a46 := Tryz.isAgg282
  z46 := Tryz.sizeOf282
  v46 := Tryz.zeroValue282
  t51 := Tryz.underlying310
  a51 := Tryz.isAgg310
  z51 := Tryz.sizeOf310
  v51 := Tryz.zeroValue310
  t53 := Tryz.underlying297
  a53 := Tryz.isAgg297
  z53 := Tryz.sizeOf297
  v53 := Tryz.zeroValue297
  t171 := Tryz.underlying296
  a171 := Tryz.isAgg296
  z171 := Tryz.sizeOf296
  v171 := Tryz.zeroValue296
  t173 := Tryz.underlying300
  a173 := Tryz.isAgg300
  z173 := Tryz.sizeOf300
  v173 := Tryz.zeroValue300
  t212 := Tryz.underlying316
  a212 := Tryz.isAgg316
  z212 := Tryz.sizeOf316
  v212 := Tryz.zeroValue316
  t213 := Tryz.underlying317
  a213 := Tryz.isAgg317
  z213 := Tryz.sizeOf317
  t232 := Tryz.underlying343
  a232 := Tryz.isAgg343
  z232 := Tryz.sizeOf343
  v232 := Tryz.zeroValue343
  t233 := Tryz.underlying344
  a233 := Tryz.isAgg344
  z233 := Tryz.sizeOf344
  v233 := Tryz.zeroValue344
  g17 := by kernel_rfl
  g18 := by kernel_rfl
  g19 := by kernel_rfl
  i0 := by kernel_rfl
  i2 := by kernel_rfl
  i3 := by kernel_rfl
  i4 := by kernel_rfl
  i5 := by kernel_rfl
  i9 := by kernel_rfl
  i20 := by kernel_rfl
  i37 := by kernel_rfl
  i46 := by kernel_rfl
  i51 := by kernel_rfl
  i53 := by kernel_rfl
  i171 := by kernel_rfl
  i173 := by kernel_rfl
  i212 := by kernel_rfl
  i232 := by kernel_rfl
  i233 := by kernel_rfl
  m17 := by kernel_rfl
  m18 := by kernel_rfl
  m19 := by kernel_rfl }

/-- strconv.Itoa. -/
theorem Tryz.itoa_any (n : Int) (h0 : -9223372036854775808 ≤ n) (h1 : n ≤ 9223372036854775807) (w : World) (htab : Lib.TabIs Tryz.prog w "internal/strconv.uint64pow10" .u64 Lib.pow10Tab) :
    Calls Tryz.prog 169 #[.int .i64 n] w fun e w' => e = .returned (.string ⟨(Lib.itoa n).toArray⟩) ∧ ∃ k os, w' = Sort.grow (w.drewN k) os :=
  Any.strconv_Itoa Tryz.lays171 n h0 h1 w htab

end Go.Proofs.YtapjkbpfhmbfaaaGreatDoor
