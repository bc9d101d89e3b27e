/-
  What the document's l6Left answers, by a walk of its Go text.
  What the program's and the document's EntryLess answer at every two entries, by walks of their Go text; and what the library's strings.Compare, cmp.Compare and cmp.Or answer to them.
-/
import Derived.Deep.RegionWith
import Derived.Test.YtapjkbpfhmbfaaaGreatDoorSo08
import Derived.Test.YtapjkbpfhmbfaaaGreatDoorSo14
import Derived.Test.YtapjkbpfhmbfaaaGreatDoorSo13
import Derived.Deep.RegionHeld3
import Derived.Deep.DeepCutAuto
import Derived.WalkSpells
import Derived.Lib.Walk
import Derived.WalkLawsBesides
import Derived.Test.YtapjkbpfhmbfaaaGreatDoorSo00
import Derived.Test.YtapjkbpfhmbfaaaGreatDoorSo01
namespace Go.Proofs.YtapjkbpfhmbfaaaGreatDoor
open Go.RowKit
set_option maxRecDepth 100000
set_option maxHeartbeats 4000000
theorem last_at {L : List EntD} {k : Nat} {e : EntD} (hk : L.length = k + 1) (h : L[k]? = some e) : lastS L = e.2.1 := by
  unfold lastS
  rw [List.getLast?_eq_getElem?, hk, Nat.add_sub_cancel, h]
theorem left_text {q : Int} {P : List (List EntD)} {k : Nat} {L : List EntD} (h : P[k]? = some L) (hq : q < lastS L) : txP (leftP q (P.take (k + 1))) = txP (leftP q (P.take k)) ++ frameT L := by
  rw [left_take h, if_pos hq, txP_append]
  simp [txP]
theorem left_no {q : Int} {P : List (List EntD)} {k : Nat} {L : List EntD} (h : P[k]? = some L) (hq : ¬ q < lastS L) : leftP q (P.take (k + 1)) = leftP q (P.take k) := by
  rw [left_take h, if_neg hq, List.append_nil]
theorem left_size (q : Int) : ∀ (P : List (List EntD)), szP (leftP q P) ≤ szP P
  | [] => Nat.le_refl _
  | L :: P => by
    have ih := left_size q P
    unfold leftP at ih ⊢
    by_cases hq : q < lastS L
    · rw [List.filter_cons_of_pos (by exact decide_eq_true hq)]
      simp only [szP]
      omega
    · rw [List.filter_cons_of_neg (by rw [decide_eq_false hq]; decide)]
      simp only [szP]
      omega
theorem bytes_app {O : ByteArray} {l m : List UInt8} {F : ByteArray} (hO : O = ⟨l.toArray⟩) (hF : F.data.toList = m) : O ++ F = ⟨(l ++ m).toArray⟩ := by
  apply ByteArray.ext
  apply Array.toList_inj.1
  rw [ByteArray.data_append, Array.toList_append, hO, hF]
theorem specLeft (a : Option Addr) (n c : Nat) (P : List (List EntD)) (q : Int) (w : World) (hP : PartsAt w a n c P) (hd : ∀ L ∈ P, doneB L = true) (hz : szP P ≤ 1048576) :
    Calls Tryz.prog 84 #[.slice a n c, .int .i64 q] w fun e w' => e = .returned (.string ⟨(txP (leftP q P)).toArray⟩) ∧ Below w.heap.size w w' := by
  have HP : Hid (PartsAt w a n c P) := hP
  have HLN : Hid (P.length = n) := hP.length
  have HD : Hid (∀ L ∈ P, doneB L = true) := hd
  have HZ : Hid (szP P ≤ 1048576) := hz
  have hroom := hP.room
  have hbig := hP.big
  unfold maxLen at hbig
  clear hP hd hz
  go_enter Tryz.func84, Tryz.ntmps84
  go_wp2
  go_loopw [5, 6] (fun ov iv wr => ∃ i : Nat, i ≤ n ∧ iv = .int .i64 i ∧ ov = .string ⟨(txP (leftP q (P.take i))).toArray⟩ ∧ Below w.heap.size w wr) (fun _ iv _ => n - (intOf iv).toNat)
  case atStart => exact ⟨0, Nat.zero_le _, rfl, by simp [leftP, txP], Below.refl _ _⟩
  case round =>
    obtain ⟨i, hi, rfl, rfl, hb⟩ := hrel
    obtain ⟨O, hO⟩ : ∃ O : ByteArray, O = ⟨(txP (leftP q (P.take i))).toArray⟩ := ⟨_, rfl⟩
    have HO : Hid (O = ⟨(txP (leftP q (P.take i))).toArray⟩) := hO
    have hOz : O.size ≤ 1048576 := by
      have h1 := left_size q (P.take i)
      have h2 := szP_le (P := P) (i := i)
      have h3 := HZ.out
      have h4 : O.size = (txP (leftP q (P.take i))).length := by rw [hO]; simp [ByteArray.size]
      rw [txP_len] at h4
      omega
    rw [← hO]
    clear hO
    by_cases hlt : i < n
    · have hltI : (i : Int) < (n : Int) := by omega
      obtain ⟨b, off, rfl, hbb⟩ := HP.out.form (by omega)
      obtain ⟨L, s, len, cap, hL, c0, hE⟩ := HP.out.list hb i hlt
      have HL : Hid (P[i]? = some L) := hL
      have hdn := HD.out L (List.mem_of_getElem? hL)
      obtain ⟨l1, l12, _⟩ := done_parts hdn
      have HDN : Hid (doneB L = true) := hdn
      have hLl := hE.length
      have hlc := hE.room
      have hcb := hE.big
      unfold maxLen at hcb
      have hl1 : 1 ≤ len := by omega
      obtain ⟨bs, os, rfl, zs⟩ := hE.form (by omega)
      obtain ⟨es, eq, ed, et, en, hx, hw, e0, e1, e2, e3, e4⟩ := hE.ent (Below.refl _ wr) zs (len - 1) (by omega)
      have hlast := last_at (by omega) hx
      simp only at hlast
      have HLA : Hid (lastS L = eq) := hlast
      have hbr : b < wr.heap.size := Nat.lt_of_lt_of_le hbb hb.size
      have hj1 : (0 : Int) ≤ (len : Int) - 1 := by omega
      have hj2 : (len : Int) - 1 < (len : Int) := by omega
      have hjt : ((len : Int) - 1).toNat = len - 1 := by omega
      have wj : IntKind.i64.wrap ((len : Int) - 1) = (len : Int) - 1 := by rw [IntWalk.i64_left]; unfold wrap64; omega
      have HB : Hid (Below w.heap.size w wr.drew) := hb.drew
      have CF := specFrame (some ⟨bs, os, none⟩) len cap L wr.drew (hE.keep (Below.refl _ _).drew)
      obtain ⟨F, hF⟩ : ∃ F, F = frameB L := ⟨_, rfl⟩
      have HF : Hid (F = frameB L) := hF
      have hFz : F.size ≤ 1000000 := by
        rw [hF]
        have h1 := frameB_is hdn
        have h2 : (frameB L).size = (frameT L).length := by rw [← h1, Array.length_toList]; rfl
        have h3 := entsT_small hdn
        have h4 := szP_next HL.out
        have h5 := szP_le (P := P) (i := i + 1)
        have h6 := HZ.out
        have h7 : (frameT L).length ≤ 1048576 := by omega
        have h8 := Lib.itoa_length_le ((entsT L).length : Int) (by omega) (by omega)
        rw [h2]
        unfold frameT
        simp only [List.length_append, List.length_cons, List.length_nil]
        omega
      rw [← hF] at CF
      have hcat : ¬ 9223372036854775807 < O.size + F.size := by omega
      clear hL hdn hx hw hlast hLl hE hb hF
      by_cases hq : q < eq
      · have HR : Hid (Value.string (O ++ F) = Value.string ⟨(txP (leftP q (P.take (i + 1)))).toArray⟩) := by
          show Value.string (O ++ F) = _
          rw [left_text HL.out (by rw [HLA.out]; omega), ← bytes_app HO.out (F := F) (by rw [HF.out]; exact frameB_is HDN.out)]
        go_wp2
        go_region_with (fail)
        go_wp2_with (go_at_call 115; refine CF.mono ?_; rintro e w2 ⟨rfl, hb2⟩)
        go_roundw
        case rel => exact ⟨i + 1, by omega, by go_num, HR.out, HB.out.trans (hb2.mono HB.out.size)⟩
        case measure => simp [intOf]; omega
        case roundEnd => exact ⟨⟨i + 1, by omega, by first | rfl | go_num, HR.out, HB.out.trans (hb2.mono HB.out.size)⟩, by simp [intOf]; omega⟩
      · clear CF
        have HR : Hid (Value.string O = Value.string ⟨(txP (leftP q (P.take (i + 1)))).toArray⟩) := by
          show Value.string O = _
          rw [left_no HL.out (by rw [HLA.out]; omega), ← HO.out]
        go_wp2
        go_region_with (fail)
        go_wp2
        go_roundw
        case rel => exact ⟨i + 1, by omega, by go_num, HR.out, HB.out⟩
        case measure => simp [intOf]; omega
        case roundEnd => exact ⟨⟨i + 1, by omega, by first | rfl | go_num, HR.out, HB.out⟩, by simp [intOf]; omega⟩
    · have hltI : ¬ (i : Int) < (n : Int) := by omega
      have HTA : Hid (P.take i = P) := List.take_of_length_le (by rw [HLN.out]; omega)
      go_wp2
      go_ret
      refine ⟨?_, hb⟩
      have h1 := HO.out
      rw [HTA.out] at h1
      rw [← h1]
      rfl
end Go.Proofs.YtapjkbpfhmbfaaaGreatDoor

namespace Go.Proofs.YtapjkbpfhmbfaaaGreatDoor
open Go.RowKit
set_option maxRecDepth 100000
set_option maxHeartbeats 1000000
theorem cell_new0 (W : World) (x y : Value) (t b : Nat) (hb : b = W.heap.size) : (W.alloc (.cells #[x, y] t)).drew.cell? ⟨b, 0, none⟩ = some x := by subst hb; simp
theorem cell_new1 (W : World) (x y : Value) (t b : Nat) (hb : b = W.heap.size) : (W.alloc (.cells #[x, y] t)).drew.cell? ⟨b, 1, none⟩ = some y := by subst hb; simp
theorem strCompare (a b : ByteArray) (w : World) :
    Calls Tryz.prog 257 #[.string a, .string b] w fun e w' => e = .returned (.int .i64 (Lib.compareBytes a.data.toList b.data.toList)) ∧ w' = w := by
  go_enter Tryz.func257, Tryz.ntmps257
  go_wp2
  rw [run_callFunc_extern Tryz.func305 (by kernel_rfl) (by kernel_rfl) (by kernel_rfl) (e := Extern.BytealgCompare.compare) (by kernel_rfl), Lib.run_compareString]
  simp only [Result.andThen]
  rw [Oper.upon_value]
  go_wp2
  go_ret
  exact ⟨rfl, rfl⟩
theorem intCompare (x y : Int) (w : World) :
    Calls Tryz.prog 258 #[.int .i64 x, .int .i64 y] w fun e w' => e = .returned (.int .i64 (Lib.compareInt x y)) ∧ w' = w := by
  by_cases h1 : x < y
  · go_enter Tryz.func258, Tryz.ntmps258
    go_wp2
    go_ret
    exact ⟨by simp [Lib.compareInt, h1], rfl⟩
  · by_cases h2 : x > y
    · have h2' : y < x := h2
      go_enter Tryz.func258, Tryz.ntmps258
      go_wp2
      go_ret
      exact ⟨by simp [Lib.compareInt, h1, h2], rfl⟩
    · have h3 : x = y := by omega
      subst h3
      go_enter Tryz.func258, Tryz.ntmps258
      go_wp2
      go_ret
      exact ⟨by simp [Lib.compareInt], rfl⟩
theorem cmpOr (x y : Int) (b c : Nat) (w : World) (g0 : w.cell? ⟨b, 0, none⟩ = some (.int .i64 x)) (g1 : w.cell? ⟨b, 1, none⟩ = some (.int .i64 y)) :
    Calls Tryz.prog 256 #[.slice (some ⟨b, 0, none⟩) 2 c] w fun e w' => e = .returned (.int .i64 (if x = 0 then y else x)) ∧ w' = w := by
  go_enter Tryz.func256, Tryz.ntmps256
  go_wp2
  go_loop [8] (fun i => (i = .int .i64 0) ∨ (i = .int .i64 1 ∧ x = 0) ∨ (i = .int .i64 2 ∧ x = 0 ∧ y = 0)) (fun i => 2 - (intOf i).toNat)
  case atStart => exact Or.inl rfl
  case round =>
    rcases hrel with rfl | ⟨rfl, rfl⟩ | ⟨rfl, rfl, rfl⟩
    · by_cases h0 : x = 0
      · subst h0
        go_wp2
        go_round
        case rel => exact Or.inr (Or.inl ⟨by go_num, trivial⟩)
        case measure => simp [intOf]
      · have h0' : (x != 0) = true := by simpa using h0
        go_wp2
        go_ret
        exact ⟨rfl, rfl⟩
    · by_cases h0 : y = 0
      · subst h0
        go_wp2
        go_round
        case rel => exact Or.inr (Or.inr ⟨by go_num, trivial, trivial⟩)
        case measure => simp [intOf]
      · have h0' : (y != 0) = true := by simpa using h0
        go_wp2
        go_ret
        exact ⟨rfl, rfl⟩
    · go_wp2
      go_ret
      exact ⟨rfl, rfl⟩
def ordI (ka : ByteArray) (qa : Int) (kb : ByteArray) (qb : Int) : Int := if Lib.compareBytes ka.data.toList kb.data.toList = 0 then Lib.compareInt qb qa else Lib.compareBytes ka.data.toList kb.data.toList
theorem implOrder (ka ta kb tb : ByteArray) (qa da na qb db nb : Int) (w : World) :
    Calls Tryz.prog 215 #[.agg #[.string ka, .int .i64 qa, .int .i64 da, .string ta, .int .i64 na], .agg #[.string kb, .int .i64 qb, .int .i64 db, .string tb, .int .i64 nb]] w fun e w' => e = .returned (.int .i64 (ordI ka qa kb qb)) ∧ Below w.heap.size w w' := by
  obtain ⟨C, hC⟩ : ∃ C, C = Lib.compareBytes ka.data.toList kb.data.toList := ⟨_, rfl⟩
  obtain ⟨D, hD⟩ : ∃ D, D = Lib.compareInt qb qa := ⟨_, rfl⟩
  have c1 : ∀ w, Calls Tryz.prog 257 #[.string ka, .string kb] w fun e w' => e = .returned (.int .i64 C) ∧ w' = w := by rw [hC]; exact strCompare ka kb
  have c2 : ∀ w, Calls Tryz.prog 258 #[.int .i64 qb, .int .i64 qa] w fun e w' => e = .returned (.int .i64 D) ∧ w' = w := by rw [hD]; exact intCompare qb qa
  obtain ⟨O, hO⟩ : ∃ O, O = if C = 0 then D else C := ⟨_, rfl⟩
  have c3 : ∀ b c w, w.cell? ⟨b, 0, none⟩ = some (.int .i64 C) → w.cell? ⟨b, 1, none⟩ = some (.int .i64 D) → Calls Tryz.prog 256 #[.slice (some ⟨b, 0, none⟩) 2 c] w fun e w' => e = .returned (.int .i64 O) ∧ w' = w := by
    rw [hO]
    exact fun b c w g0 g1 => cmpOr C D b c w g0 g1
  unfold ordI
  rw [← hC, ← hD, ← hO]
  clear hC hD hO
  go_enter Tryz.func215, Tryz.ntmps215
  go_wp2_with fail
  obtain ⟨X, hX⟩ : ∃ X, X = w.heap.size := ⟨_, rfl⟩
  obtain ⟨W, hW⟩ : ∃ W, W = (w.alloc (.cells #[.string ka, .int .i64 qa, .int .i64 da, .string ta, .int .i64 na] 87)).alloc (.cells #[.string kb, .int .i64 qb, .int .i64 db, .string tb, .int .i64 nb] 87) := ⟨_, rfl⟩
  have x0 : W.cell? ⟨X, 0, none⟩ = some (.string ka) := by rw [hW, hX]; simp
  have x1 : W.cell? ⟨X, 1, none⟩ = some (.int .i64 qa) := by rw [hW, hX]; simp
  have y0 : W.cell? ⟨X + 1, 0, none⟩ = some (.string kb) := by rw [hW, hX]; simp
  have y1 : W.cell? ⟨X + 1, 1, none⟩ = some (.int .i64 qb) := by rw [hW, hX]; simp
  have kW : Below w.heap.size w W := by rw [hW]; exact ((Below.refl _ _).alloc (Nat.le_refl _) _).alloc (by simp) _
  rw [← hW, ← hX]
  clear hW hX
  have HKW : Hid (Below w.heap.size w W) := kW
  clear kW
  have k0 : Below W.heap.size W W.drew := (Below.refl _ W).drew
  have HMK : Hid (∀ w', Below W.heap.size W w' → (w'.cell? ⟨X, 0, none⟩ = some (.string ka) ∧ w'.cell? ⟨X, 1, none⟩ = some (.int .i64 qa) ∧ w'.cell? ⟨X + 1, 0, none⟩ = some (.string kb) ∧ w'.cell? ⟨X + 1, 1, none⟩ = some (.int .i64 qb) ∧ Below W.heap.size W w')) := fun w' k => ⟨cell_later k x0, cell_later k x1, cell_later k y0, cell_later k y1, k⟩
  go_region_held3 (fun w' => w'.cell? ⟨X, 0, none⟩ = some (.string ka) ∧ w'.cell? ⟨X, 1, none⟩ = some (.int .i64 qa) ∧ w'.cell? ⟨X + 1, 0, none⟩ = some (.string kb) ∧ w'.cell? ⟨X + 1, 1, none⟩ = some (.int .i64 qb) ∧ Below W.heap.size W w') (first | exact HMK.out _ k0 | exact HMK.out _ ((Below.refl _ W).alloc (Nat.le_refl _) _).drew | exact HMK.out _ (k0.alloc (Nat.le_refl _) _)) (first
    | (go_at_call 257; refine (c1 _).mono ?_; rintro e w' ⟨rfl, rfl⟩)
    | (go_at_call 258; refine (c2 _).mono ?_; rintro e w' ⟨rfl, rfl⟩)
    | (go_at_call 256; refine (c3 _ _ _ (cell_new0 _ _ _ _ _ (by simp)) (cell_new1 _ _ _ _ _ (by simp))).mono ?_; rintro e w' ⟨rfl, rfl⟩))
  go_wp2
  go_ret
  exact ⟨rfl, HKW.out.trans (((Below.refl _ W).alloc (Nat.le_refl _) _).drew.mono HKW.out.size)⟩
theorem order_less (ka kb : ByteArray) (qa qb : Int) : decide (ordI ka qa kb qb < 0) = lessB ka qa kb qb := by
  unfold lessB ordI Lib.compareInt
  rcases cmp_cases ka.data.toList kb.data.toList with ⟨h, h1, h2⟩ | ⟨h, h1, h2⟩ | ⟨h, h1, h2⟩
  · rw [h, h1]; rfl
  · have : ka = kb := by
      apply ByteArray.ext
      exact Array.toList_inj.1 h2
    subst this
    rw [h, h1]
    by_cases g : qb < qa
    · simp [g]
    · by_cases g' : qb > qa <;> simp [g, g']
  · have : ¬ ka = kb := fun e => h2 (by rw [e])
    rw [h, h1]
    simp [this]
theorem implLess (ka ta kb tb : ByteArray) (qa da na qb db nb : Int) (w : World) :
    Calls Tryz.prog 190 #[.agg #[.string ka, .int .i64 qa, .int .i64 da, .string ta, .int .i64 na], .agg #[.string kb, .int .i64 qb, .int .i64 db, .string tb, .int .i64 nb]] w fun e w' => e = .returned (.bool (lessB ka qa kb qb)) ∧ Below w.heap.size w w' := by
  go_enter Tryz.func190, Tryz.ntmps190
  go_wp2_with fail
  refine (implOrder _ _ _ _ _ _ _ _ _ _ _).mono ?_
  rintro e w1 ⟨rfl, hb1⟩
  go_wp2
  go_ret
  exact ⟨ret_bool (order_less ka kb qa qb), (((Below.refl _ _).alloc (Nat.le_refl _) _).alloc (by simp) _).trans (hb1.mono (by simp; omega))⟩
theorem less_self (a : List UInt8) : Op.bytesLess a a = false := by
  rcases cmp_cases a a with ⟨_, _, h⟩ | ⟨_, h, _⟩ | ⟨_, h, _⟩
  · exact absurd rfl h
  · exact h
  · exact h
theorem specLess (ka ta kb tb : ByteArray) (qa da na qb db nb : Int) (w : World) :
    Calls Tryz.prog 129 #[.agg #[.string ka, .int .i64 qa, .int .i64 da, .string ta, .int .i64 na], .agg #[.string kb, .int .i64 qb, .int .i64 db, .string tb, .int .i64 nb]] w fun e w' => e = .returned (.bool (lessB ka qa kb qb)) ∧ Below w.heap.size w w' := by
  by_cases he : ka = kb
  · subst he
    have hl : Op.bytesLess ka.toList ka.toList = false := less_self _
    by_cases hq : qb < qa
    · go_enter Tryz.func129, Tryz.ntmps129
      go_wp2
      go_ret
      refine ⟨ret_bool ?_, ((Below.refl _ _).alloc (Nat.le_refl _) _).alloc (by simp) _⟩
      unfold lessB
      rw [less_self]
      simp [hq]
    · go_enter Tryz.func129, Tryz.ntmps129
      go_wp2
      go_ret
      refine ⟨ret_bool ?_, ((Below.refl _ _).alloc (Nat.le_refl _) _).alloc (by simp) _⟩
      unfold lessB
      rw [less_self]
      simp [hq]
  · have hne : ¬ ka.toList = kb.toList := by
      rw [ByteArray.toList_eq, ByteArray.toList_eq]
      intro h
      exact he (ByteArray.ext (Array.toList_inj.1 h))
    cases hl : Op.bytesLess ka.toList kb.toList with
    | true =>
      go_enter Tryz.func129, Tryz.ntmps129
      go_wp2
      go_ret
      refine ⟨ret_bool ?_, ((Below.refl _ _).alloc (Nat.le_refl _) _).alloc (by simp) _⟩
      unfold lessB
      rw [ByteArray.toList_eq, ByteArray.toList_eq] at hl
      simp [hl]
    | false =>
      go_enter Tryz.func129, Tryz.ntmps129
      go_wp2
      go_ret
      refine ⟨ret_bool ?_, ((Below.refl _ _).alloc (Nat.le_refl _) _).alloc (by simp) _⟩
      unfold lessB
      rw [ByteArray.toList_eq, ByteArray.toList_eq] at hl
      simp [hl, he]
end Go.Proofs.YtapjkbpfhmbfaaaGreatDoor
