/-
  What a strings.Builder does at this program when a byte is written, by walks of its Go text; the program's keys of numbers, and the document's.
-/
import Derived.Test.YtpaknibaeieobaaShelfB
import Derived.Test.YtpaknibaeieobaaDec
import Derived.Laws.AppendOwn
import Derived.Lib.MakeNoZero
import Derived.Laws.Externs
import Derived.Laws.IdiomCopy
namespace Go.Proofs.Ytpaknibaeieobaa
open Go.RowKit Go.Shelf

theorem Try.sizeBuilder : (Try.prog.info? 120).map (·.size) = some 2 := by kernel_rfl

set_option maxHeartbeats 1000000 in
set_option maxRecDepth 100000 in
theorem check_used (b : Nat) (w : World) (h0 : w.cell? ⟨b, 0, none⟩ = some (.pointer (some ⟨b, 0, none⟩))) :
    Calls Try.prog 101 #[.pointer (some ⟨b, 0, none⟩)] w fun e w' => e = .returned (.tuple #[]) ∧ w' = w := by
  obtain ⟨j, hj, _⟩ := Option.map_eq_some_iff.1 Try.sizeBuilder
  go_enter Try.func101, Try.ntmps101
  go_wp2
  rw [Lib.run_neq_ptr_same w _ Try.underlying118 hj]
  go_wp2
  go_end0
  exact ⟨rfl, rfl⟩

set_option maxHeartbeats 1000000 in
set_option maxRecDepth 100000 in
theorem check_fresh (b : Nat) (w : World) (h0 : w.cell? ⟨b, 0, none⟩ = some (.pointer none)) (hsh : w.shape? b = some (120, 2)) (hfz : w.frozen? ⟨b, 0, none⟩ = false) :
    Calls Try.prog 101 #[.pointer (some ⟨b, 0, none⟩)] w fun e w' => e = .returned (.tuple #[]) ∧ w' = w.setCell ⟨b, 0, none⟩ (.pointer (some ⟨b, 0, none⟩)) := by
  obtain ⟨j, hj, hjs⟩ := Option.map_eq_some_iff.1 Try.sizeBuilder
  go_enter Try.func101, Try.ntmps101
  go_wp2
  rw [Lib.run_to_unsafe w ⟨b, 0, none⟩ Try.underlying118 Try.underlying155 hj (by rw [hjs]; decide) hsh (Nat.zero_lt_succ 1)]
  simp only [Result.andThen]
  rw [Oper.upon_value]
  go_wp2
  rw [run_callFunc_extern Try.func114 (by kernel_rfl) (by kernel_rfl) (by kernel_rfl) (e := Extern.AbiNoEscape.same) (by kernel_rfl)]
  rw [Lib.run_noEscape]
  simp only [Result.andThen]
  rw [Oper.upon_value]
  go_wp2
  rw [Lib.run_from_unsafe w ⟨b, 0, none⟩ Try.underlying155 Try.underlying118 hj hsh (by kernel_rfl)]
  simp only [Result.andThen]
  rw [Oper.upon_value]
  go_wp2
  go_end0
  exact ⟨rfl, rfl⟩

theorem check_any (B b : Nat) (bs : List Value) (w : World) (h : Lib.IsBuilder 120 5 B b bs w) :
    Calls Try.prog 101 #[.pointer (some ⟨b, 0, none⟩)] w fun e w' => e = .returned (.tuple #[]) ∧ (Lib.BuilderAt 120 5 B b (.pointer (some ⟨b, 0, none⟩)) bs w' ∧ Below B w w') := by
  rcases h with h | h
  · refine (check_fresh b w h.cell0 h.shape h.frozen0).mono ?_
    rintro e w' ⟨rfl, rfl⟩
    exact ⟨rfl, h.used _, (Below.refl B w).setCell (p := ⟨b, 0, none⟩) h.1 _⟩
  · refine (check_used b w h.cell0).mono ?_
    rintro e w' ⟨rfl, rfl⟩
    exact ⟨rfl, h, Below.refl B _⟩

set_option maxHeartbeats 2000000 in
set_option maxRecDepth 100000 in
theorem writeByte_any (B b : Nat) (bs : List Value) (c : Int) (w : World) (h : Lib.IsBuilder 120 5 B b bs w) (hlen : bs.length + 1 ≤ 140737488355328) (hBw : B ≤ w.heap.size) :
    Calls Try.prog 83 #[.pointer (some ⟨b, 0, none⟩), .int .u8 c] w fun e w' => e = .returned .nilIface ∧ (Lib.BuilderAt 120 5 B b (.pointer (some ⟨b, 0, none⟩)) (bs ++ [.int .u8 c]) w' ∧ Below B w w') := by
  obtain ⟨i0, hi, hz0, hz1, hz2⟩ := info_parts Try.Builder_Extra_169.infoByte
  go_enter Try.func83, Try.ntmps83
  go_wp2_with (go_at_call 101; refine (check_any B b bs _ h).mono ?_)
  rintro e w1 ⟨rfl, h1, hb1⟩
  obtain ⟨hB, v, hbk, hown, hne⟩ := h1
  have c0 : w1.cell? ⟨b, 0, none⟩ = some (.pointer (some ⟨b, 0, none⟩)) := by rw [Lib.cell_of_heap hbk]; rfl
  have c1 : w1.cell? ⟨b, 1, none⟩ = some v := by rw [Lib.cell_of_heap hbk]; rfl
  go_wp2_with (at_builtin; refine wpList_append_own _ rfl _ _ 65 rfl B 5 i0 (.int .u8 0) 1 1 Try.underlying65 hi hz0 hz1 hz2 rfl (by decide) _ _ _ rfl (hown.alloc _) ⟨w1.heap.size, 0, none⟩ 1 1 [.int .u8 c] rfl rfl ?c1 ?c2 ?c3 ?c4 ?c5 ?_)
  case c1 =>
    intro j u hj
    match j, hj with
    | 0, hj => simp at hj; subst hj; simp [Addr.add]
  case c2 => intro u hu; simp at hu; subst hu; rfl
  case c3 => unfold maxLen; omega
  case c4 => omega
  case c5 => have := hb1.size; simp; omega
  intro v' w2 hown' hgrow _
  have hlt : b < w1.heap.size := by
    rcases Nat.lt_or_ge b w1.heap.size with h' | h'
    · exact h'
    · simp [Array.getElem?_eq_none h'] at hbk
  have hb2 : w2.heap[b]? = some (.cells #[.pointer (some ⟨b, 0, none⟩), v] 120 (0, 0)) := by
    rw [hgrow.block b (by simp; omega) (fun e => hne e.symm), Lib.alloc_old w1 _ b hlt]
    exact hbk
  have d0 : w2.cell? ⟨b, 0, none⟩ = some (.pointer (some ⟨b, 0, none⟩)) := by rw [Lib.cell_of_heap hb2]; rfl
  have d1 : w2.cell? ⟨b, 1, none⟩ = some v := by rw [Lib.cell_of_heap hb2]; rfl
  have f1 : w2.frozen? ⟨b, 1, none⟩ = false := Lib.frozen_of_heap hb2 1
  obtain ⟨g, cap, rfl⟩ : ∃ g cap, v' = .slice (some ⟨g, 0, none⟩) (bs.length + 1) cap := by
    rcases hown'.2 with ⟨_, h0⟩ | ⟨g, cap, cur, hv, _⟩
    · omega
    · exact ⟨g, cap, hv⟩
  go_wp2
  go_ret
  refine ⟨rfl, ?_, ?_⟩
  · exact Lib.BuilderAt.put (T := 120) (e := 5) hB hb2 (bs' := bs ++ [.int .u8 c]) (by simpa using hown') Try.Builder_Extra_169.neB5
  · exact ((hb1.alloc (by have := hb1.size; omega) _).grown hgrow (by have := hb1.size; simp; omega) (fun k hk => (hown.lt k hk).1)).setCell (p := ⟨b, 1, none⟩) hB _

/-- The key of a number: what it is of, a sign, two digits. -/
def numKey (c : UInt8) (n : Int) : ByteArray := ⟨#[c, 47, dig (n / 10), dig (n % 10)]⟩
def keyN (c : UInt8) (n most : Int) : ByteArray := if n < 0 ∨ most < n then ⟨#[]⟩ else numKey c n

set_option maxHeartbeats 2000000 in
set_option maxRecDepth 100000 in
theorem keyNum_yes (c : UInt8) (n most : Int) (w : World) (h0 : 0 ≤ n) (h1 : n ≤ most) (h2 : most ≤ 99) :
    Calls Try.prog 62 #[.int .u8 c.toNat, .int .i64 n, .int .i64 most] w fun e w' => e = .returned (.string (numKey c n)) ∧ Below w.heap.size w w' := by
  go_enter Try.func62, Try.ntmps62
  go_wp2_with fail
  have hB0 : Lib.IsBuilder 120 5 w.heap.size w.heap.size [] (w.alloc (.cells #[.pointer none, .slice none 0 0] 120)) := Lib.fresh_isBuilder _ _ w
  have k0 : Below w.heap.size w (w.alloc (.cells #[.pointer none, .slice none 0 0] 120)) := (Below.refl _ _).alloc (Nat.le_refl _) _
  refine (writeByte_any w.heap.size w.heap.size [] c.toNat _ hB0 (by decide) k0.size).mono ?_
  rintro e w1 ⟨rfl, hB1, hb1⟩
  have k1 := k0.trans hb1
  clear hB0 k0 hb1
  go_wp2_with fail
  refine (writeByte_any w.heap.size w.heap.size _ 47 _ (Or.inr hB1) (by simp) k1.size).mono ?_
  rintro e w2 ⟨rfl, hB2, hb2⟩
  have k2 := k1.trans hb2
  clear hB1 k1 hb2
  go_wp2_with fail
  refine (writeByte_any w.heap.size w.heap.size _ (48 + n / 10) _ (Or.inr hB2) (by simp) k2.size).mono ?_
  rintro e w3 ⟨rfl, hB3, hb3⟩
  have k3 := k2.trans hb3
  clear hB2 k2 hb3
  go_wp2_with fail
  refine (writeByte_any w.heap.size w.heap.size _ (48 + n % 10) _ (Or.inr hB3) (by simp) k3.size).mono ?_
  rintro e w4 ⟨rfl, hB4, hb4⟩
  have k4 := k3.trans hb4
  clear hB3 k3 hb4
  have hl : [] ++ [Value.int .u8 (c.toNat : Int)] ++ [Value.int .u8 47] ++ [Value.int .u8 (48 + n / 10)] ++ [Value.int .u8 (48 + n % 10)] = Lib.byteCells [c, 47, dig (n / 10), dig (n % 10)] := by
    have e1 := dig_nat (n / 10) (by omega) (by omega)
    have e2 := dig_nat (n % 10) (by omega) (by omega)
    simp [Lib.byteCells, e1, e2]
  rw [hl] at hB4
  go_wp2_with fail
  refine (Try.Builder_String w.heap.size w.heap.size _ _ (Or.inr hB4) (by simp)).mono ?_
  rintro e w5 ⟨rfl, hb5⟩
  go_wp2
  go_ret
  exact ⟨rfl, k4.trans hb5⟩

set_option maxHeartbeats 2000000 in
set_option maxRecDepth 100000 in
theorem keyNum_no (c n most : Int) (w : World) (h : n < 0 ∨ most < n) :
    Calls Try.prog 62 #[.int .u8 c, .int .i64 n, .int .i64 most] w fun e w' => e = .returned (.string ⟨#[]⟩) ∧ w' = w := by
  rcases h with h | h
  · go_enter Try.func62, Try.ntmps62
    go_wp2
    go_ret
    exact ⟨rfl, rfl⟩
  · by_cases h0 : n < 0
    · go_enter Try.func62, Try.ntmps62
      go_wp2
      go_ret
      exact ⟨rfl, rfl⟩
    · go_enter Try.func62, Try.ntmps62
      go_wp2
      go_ret
      exact ⟨rfl, rfl⟩

set_option maxHeartbeats 2000000 in
set_option maxRecDepth 100000 in
theorem implKeyId (n : Int) (w : World) :
    Calls Try.prog 34 #[.int .i64 n] w fun e w' => e = .returned (.string (keyN 105 n 99)) ∧ Below w.heap.size w w' := by
  by_cases h : n < 0 ∨ 99 < n
  · go_enter Try.func34, Try.ntmps34
    go_wp2_with fail
    refine (keyNum_no _ _ _ _ h).mono ?_
    rintro e w1 ⟨rfl, rfl⟩
    go_wp2
    go_ret
    exact ⟨by rw [keyN, if_pos h]; rfl, Below.refl _ _⟩
  · go_enter Try.func34, Try.ntmps34
    go_wp2_with fail
    refine (keyNum_yes 105 n 99 _ (by omega) (by omega) (by omega)).mono ?_
    rintro e w1 ⟨rfl, hb1⟩
    go_wp2
    go_ret
    exact ⟨by rw [keyN, if_neg h]; rfl, hb1⟩

set_option maxHeartbeats 2000000 in
set_option maxRecDepth 100000 in
theorem implKeyLog (n : Int) (w : World) :
    Calls Try.prog 36 #[.int .i64 n] w fun e w' => e = .returned (.string (keyN 106 n 99)) ∧ Below w.heap.size w w' := by
  by_cases h : n < 0 ∨ 99 < n
  · go_enter Try.func36, Try.ntmps36
    go_wp2_with fail
    refine (keyNum_no _ _ _ _ h).mono ?_
    rintro e w1 ⟨rfl, rfl⟩
    go_wp2
    go_ret
    exact ⟨by rw [keyN, if_pos h]; rfl, Below.refl _ _⟩
  · go_enter Try.func36, Try.ntmps36
    go_wp2_with fail
    refine (keyNum_yes 106 n 99 _ (by omega) (by omega) (by omega)).mono ?_
    rintro e w1 ⟨rfl, hb1⟩
    go_wp2
    go_ret
    exact ⟨by rw [keyN, if_neg h]; rfl, hb1⟩

set_option maxHeartbeats 2000000 in
set_option maxRecDepth 100000 in
theorem specKeyId (n : Int) (w : World) :
    Calls Try.prog 33 #[.int .i64 n] w fun e w' => e = .returned (.string (keyN 105 n 99)) ∧ Below w.heap.size w w' := by
  by_cases h : n < 0 ∨ 99 < n
  · have hk : keyN 105 n 99 = ⟨#[]⟩ := by rw [keyN, if_pos h]
    rw [hk]
    rcases h with h | h
    · go_enter Try.func33, Try.ntmps33
      go_wp2
      go_ret
      exact ⟨rfl, Below.refl _ _⟩
    · have h' : ¬ n < 0 := by omega
      go_enter Try.func33, Try.ntmps33
      go_wp2
      go_ret
      exact ⟨rfl, Below.refl _ _⟩
  · have h1 : 0 ≤ n := by omega
    have h2 : n ≤ 99 := by omega
    have hk : keyN 105 n 99 = numKey 105 n := by rw [keyN, if_neg h]
    rw [hk]
    clear h
    go_enter Try.func33, Try.ntmps33
    go_wp2_with fail
    refine (two_small n _ h1 h2).mono ?_
    rintro e w1 ⟨rfl, hb1⟩
    go_wp2
    go_ret
    exact ⟨rfl, hb1⟩

set_option maxHeartbeats 2000000 in
set_option maxRecDepth 100000 in
theorem specKeyLog (n : Int) (w : World) :
    Calls Try.prog 35 #[.int .i64 n] w fun e w' => e = .returned (.string (keyN 106 n 99)) ∧ Below w.heap.size w w' := by
  by_cases h : n < 0 ∨ 99 < n
  · have hk : keyN 106 n 99 = ⟨#[]⟩ := by rw [keyN, if_pos h]
    rw [hk]
    rcases h with h | h
    · go_enter Try.func35, Try.ntmps35
      go_wp2
      go_ret
      exact ⟨rfl, Below.refl _ _⟩
    · have h' : ¬ n < 0 := by omega
      go_enter Try.func35, Try.ntmps35
      go_wp2
      go_ret
      exact ⟨rfl, Below.refl _ _⟩
  · have h1 : 0 ≤ n := by omega
    have h2 : n ≤ 99 := by omega
    have hk : keyN 106 n 99 = numKey 106 n := by rw [keyN, if_neg h]
    rw [hk]
    clear h
    go_enter Try.func35, Try.ntmps35
    go_wp2_with fail
    refine (two_small n _ h1 h2).mono ?_
    rintro e w1 ⟨rfl, hb1⟩
    go_wp2
    go_ret
    exact ⟨rfl, hb1⟩

end Go.Proofs.Ytpaknibaeieobaa
