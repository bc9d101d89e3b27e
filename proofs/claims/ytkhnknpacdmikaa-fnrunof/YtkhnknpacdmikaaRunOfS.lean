/-
  What the document's RunOf answers at every list of entries, by a walk of its Go text.
-/
import Derived.Test.YtkhnknpacdmikaaOwnO
import Derived.Test.YtkhnknpacdmikaaSortS
import Derived.Test.YtkhnknpacdmikaaRunOk
namespace Go.Proofs.Ytkhnknpacdmikaa
open Go.RowKit

/-- Whether entries make a run. -/
def ofB (L : List EntD) : Bool := decide (1 ≤ L.length) && (decide (L.length ≤ 150) && rightB (sortE L))
def ofL (L : List EntD) : List EntD := if ofB L = true then sortE L else []
def ofM (L : List EntD) : Int := if ofB L = true then ((maskL (sortE L) : Nat) : Int) else 0
/-- A run in memory of its own, and whether it is one. -/
def OfR (F : List EntD) (m : Int) (ok : Bool) (w : World) (e : Ending) (w' : World) : Prop :=
  ∃ a n c, e = .returned (.tuple #[.agg #[.slice a n c, .int .i64 m], .bool ok]) ∧ OwnO w' w.heap.size a n c F ∧ Below w.heap.size w w'
theorem of_no {L : List EntD} (h : ofB L = false) {w w' : World} (hb : Below w.heap.size w w') : OfR (ofL L) (ofM L) (ofB L) w (.returned (.tuple #[.agg #[.slice none 0 0, .int .i64 0], .bool false])) w' := by
  unfold ofL ofM
  rw [h]
  exact ⟨none, 0, 0, rfl, OwnO.none _ _, hb⟩
theorem of_yes {L : List EntD} (h : ofB L = true) {w w' : World} {g n c : Nat} (ho : OwnE w' w.heap.size g n c (sortE L)) (hb : Below w.heap.size w w') : OfR (ofL L) (ofM L) (ofB L) w (.returned (.tuple #[.agg #[.slice (some ⟨g, 0, none⟩) n c, .int .i64 ((maskL (sortE L) : Nat) : Int)], .bool true])) w' := by
  unfold ofL ofM
  rw [h]
  exact ⟨_, n, c, rfl, OwnO.some ho, hb⟩
theorem of_len (L : List EntD) : (ofL L).length ≤ L.length := by
  unfold ofL
  split
  · rw [sortE_len]; exact Nat.le_refl _
  · exact Nat.zero_le _

set_option maxHeartbeats 800000 in
theorem specRunL (a : Option Addr) (n c : Nat) (L : List EntD) (w : World) (hL : EntsAt w a n c L) :
    Calls Try.prog 50 #[.slice a n c] w fun e w' => e = .returned (.agg #[.slice a n c, .int .i64 ((maskL L : Nat) : Int)]) ∧ Below w.heap.size w w' := by
  go_enter Try.func50, Try.ntmps50
  go_wp2_with fail
  refine (specMaskL a n c L _ (hL.keep ((Below.refl _ _).alloc (Nat.le_refl _) _))).mono ?_
  rintro e w1 ⟨rfl, hb1⟩
  obtain ⟨hc1, hf1⟩ := bcell hb1
  have hz := hb1.size
  simp at hz
  go_wp2
  refine bodyPost_ret (v := .agg #[.slice a n c, .int .i64 ((maskL L : Nat) : Int)]) (by simp [results, Try.results50, go_sem, hc1]) rfl ⟨rfl, ?_⟩
  have hB : Below w.heap.size w w1 := ((Below.refl _ _).alloc (Nat.le_refl _) _).trans (hb1.mono (by simp))
  exact (hB.setCell (p := ⟨w.heap.size, 0, none⟩) (Nat.le_refl _) _).setCell (p := ⟨w.heap.size, 1, none⟩) (Nat.le_refl _) _

set_option maxRecDepth 100000 in
set_option maxHeartbeats 2000000 in
theorem specRunOf (a : Option Addr) (len cap : Nat) (L : List EntD) (w : World) (hL : EntsAt w a len cap L) :
    Calls Try.prog 11 #[.slice a len cap] w (OfR (ofL L) (ofM L) (ofB L) w) := by
  have HLEN : Hid (L.length = len) := hL.length
  have hbl := hL.room
  have hbc := hL.big
  unfold maxLen at hbc
  have kA : Below w.heap.size w (w.alloc (.cells #[.slice none 0 0, .int .i64 0] 26)) := (Below.refl _ _).alloc (Nat.le_refl _) _
  by_cases h1 : len < 1
  · have h1' : ¬ (1 : Int) ≤ (len : Int) := by omega
    have h1'' : (len : Int) < 1 := by omega
    go_enter Try.func11, Try.ntmps11
    go_wp2
    refine bodyPost_ret (v := .tuple #[.agg #[.slice none 0 0, .int .i64 0], .bool false]) (by simp [results, Try.results11, go_sem]) rfl ?_
    exact of_no (by have := HLEN.out; simp only [ofB, decide_eq_false (show ¬ 1 ≤ L.length by omega), Bool.false_and]) kA
  have h1' : (1 : Int) ≤ (len : Int) := by omega
  have h1'' : ¬ (len : Int) < 1 := by omega
  by_cases h2 : 150 < len
  · have h2' : (150 : Int) < (len : Int) := by omega
    go_enter Try.func11, Try.ntmps11
    go_wp2
    refine bodyPost_ret (v := .tuple #[.agg #[.slice none 0 0, .int .i64 0], .bool false]) (by simp [results, Try.results11, go_sem]) rfl ?_
    exact of_no (by have := HLEN.out; simp only [ofB, decide_eq_false (show ¬ L.length ≤ 150 by omega), Bool.false_and, Bool.and_false]) kA
  have h2' : ¬ (150 : Int) < (len : Int) := by omega
  have HB : Hid (ofB L = rightB (sortE L)) := by have := HLEN.out; unfold Hid; simp only [ofB, decide_eq_true (show 1 ≤ L.length by omega), decide_eq_true (show L.length ≤ 150 by omega), Bool.true_and]
  have HL : Hid (EntsAt w a len cap L) := hL
  clear hL
  go_enter Try.func11, Try.ntmps11
  go_wp2_with fail
  refine (specSort a len cap L _ (HL.out.keep kA) (by omega)).mono ?_
  rintro e w1 ⟨g, c, rfl, hO1, hb1⟩
  obtain ⟨hc1, hf1⟩ := bcell hb1
  have hz1 := hb1.size
  simp at hz1
  have HO1 : Hid (OwnE w1 w.heap.size g len c (sortE L)) := hO1.mono (by simp)
  have hgl := hO1.lt
  simp at hgl
  have hgl1 := hgl.1
  have HB1 : Hid (Below w.heap.size w w1) := kA.trans (hb1.mono kA.size)
  clear hO1 hgl kA
  go_wp2_with fail
  refine (specRight _ len c (sortE L) _ HO1.out.entsAt).mono ?_
  rintro e w2 ⟨rfl, hb2⟩
  have HB2 : Hid (Below w.heap.size w w2) := HB1.out.trans (hb2.mono HB1.out.size)
  have HO2 : Hid (OwnE w2 w.heap.size g len c (sortE L)) := HO1.out.below hb2
  have hwl1 : w.heap.size < w1.heap.size := by omega
  have c0 : w2.cell? ⟨w.heap.size, 0, none⟩ = some (.slice none 0 0) := (hb2.cell (p := ⟨w.heap.size, 0, none⟩) hwl1).trans ((hc1 _ _ (by simp)).trans (by simp))
  have c1 : w2.cell? ⟨w.heap.size, 1, none⟩ = some (.int .i64 0) := (hb2.cell (p := ⟨w.heap.size, 1, none⟩) hwl1).trans ((hc1 _ _ (by simp)).trans (by simp))
  have f0 : w2.frozen? ⟨w.heap.size, 0, none⟩ = false := (hb2.frozen (p := ⟨w.heap.size, 0, none⟩) hwl1).trans ((hf1 _ _ (by simp)).trans (by simp))
  have f1 : w2.frozen? ⟨w.heap.size, 1, none⟩ = false := (hb2.frozen (p := ⟨w.heap.size, 1, none⟩) hwl1).trans ((hf1 _ _ (by simp)).trans (by simp))
  have hz2 := hb2.size
  have hwl2 : w.heap.size < w2.heap.size := by omega
  clear hb1 hb2 HB1 HO1 hc1 hf1 hz1 hz2
  cases hr : rightB (sortE L) with
  | false =>
    go_wp2
    refine bodyPost_ret (v := .tuple #[.agg #[.slice none 0 0, .int .i64 0], .bool false]) (by simp [results, Try.results11, go_sem, c0, c1]) rfl ?_
    exact of_no (HB.out.trans hr) ((HB2.out.setCell (p := ⟨w.heap.size, 0, none⟩) (Nat.le_refl _) _).setCell (p := ⟨w.heap.size, 1, none⟩) (Nat.le_refl _) _)
  | true =>
    go_wp2_with fail
    refine (specRunL _ len c (sortE L) _ HO2.out.entsAt).mono ?_
    rintro e w3 ⟨rfl, hb3⟩
    have HB3 : Hid (Below w.heap.size w w3) := HB2.out.trans (hb3.mono HB2.out.size)
    have HO3 : Hid (OwnE w3 w.heap.size g len c (sortE L)) := HO2.out.below hb3
    have d0 := (hb3.cell (p := ⟨w.heap.size, 0, none⟩) hwl2).trans c0
    have d1 := (hb3.cell (p := ⟨w.heap.size, 1, none⟩) hwl2).trans c1
    have g0 := (hb3.frozen (p := ⟨w.heap.size, 0, none⟩) hwl2).trans f0
    have g1 := (hb3.frozen (p := ⟨w.heap.size, 1, none⟩) hwl2).trans f1
    clear hb3 HB2 HO2 c0 c1 f0 f1
    go_wp2
    refine bodyPost_ret (v := .tuple #[.agg #[.slice (some ⟨g, 0, none⟩) len c, .int .i64 ((maskL (sortE L) : Nat) : Int)], .bool true]) (by simp [results, Try.results11, go_sem, d0, d1]) rfl ?_
    exact of_yes (HB.out.trans hr) ((HO3.out.setCell (p := ⟨w.heap.size, 0, none⟩) (by simp; omega) _).setCell (p := ⟨w.heap.size, 1, none⟩) (by simp; omega) _) ((HB3.out.setCell (p := ⟨w.heap.size, 0, none⟩) (Nat.le_refl _) _).setCell (p := ⟨w.heap.size, 1, none⟩) (Nat.le_refl _) _)
end Go.Proofs.Ytkhnknpacdmikaa
