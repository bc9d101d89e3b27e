/-
  The program's codeOf and BookOk, by walks of their Go text.
-/
import Derived.Test.YtoegpdinokjbmaaDoorErrAs
import Derived.Test.YtoegpdinokjbmaaDoorTallyO
namespace Go.Proofs.YtoegpdinokjbmaaDoor
open Go.RowKit

/-- What package errors' own variable holds. -/
def HasEt (w : World) : Prop := w.cell? ⟨0, 0, none⟩ = some (.iface 138 (.agg #[.pointer (some ⟨1, 64, none⟩)]))
theorem HasEt.keep {w w' : World} (h : HasEt w) (hb : Below w.heap.size w w') : HasEt w' := cell_later hb h

set_option maxRecDepth 100000 in
set_option maxHeartbeats 4000000 in
theorem implCodeNil (w : World) : Calls Tryd.prog 31 #[.nilIface] w fun e w' => e = .returned (.int .i64 0) ∧ Below w.heap.size w w' := by
  have k : Hid (Below w.heap.size w (w.alloc (.cells #[.int .i64 0] 93))) := (Below.refl _ _).alloc (Nat.le_refl _) _
  go_enter Tryd.func31, Tryd.ntmps31
  go_wp2_with (go_at_call 55; refine (as_nil _ _).mono ?_; rintro e w' ⟨rfl, rfl⟩)
  go_ret
  exact ⟨rfl, k.out⟩

set_option maxRecDepth 100000 in
set_option maxHeartbeats 4000000 in
theorem implCodeHit (c : Int) (w : World) (hg : HasEt w) : Calls Tryd.prog 31 #[.iface 93 (.agg #[.int .i64 c])] w fun e w' => e = .returned (.int .i64 c) ∧ Below w.heap.size w w' := by
  obtain ⟨X, hX⟩ : ∃ X, X = w.heap.size := ⟨_, rfl⟩
  obtain ⟨W, hW⟩ : ∃ W, W = w.alloc (.cells #[.int .i64 0] 93) := ⟨_, rfl⟩
  have kW : Below w.heap.size w W := by rw [hW]; exact (Below.refl _ _).alloc (Nat.le_refl _) _
  have hgA : HasEt W := hg.keep kW
  have htA : W.cell? ⟨X, 0, none⟩ = some (.int .i64 0) := by rw [hW, hX]; simp
  have hfA : W.frozen? ⟨X, 0, none⟩ = false := by rw [hW, hX]; simp
  have CA := as_hit c ⟨X, 0, none⟩ (.int .i64 0) W hgA htA hfA
  have HX : Hid (X = w.heap.size) := hX
  have K0 : Hid (Below w.heap.size w W) := kW
  have HT : Hid (W.cell? ⟨X, 0, none⟩ = some (.int .i64 0)) := htA
  clear hgA htA hfA kW hg
  go_enter Tryd.func31, Tryd.ntmps31
  go_wp2_with fail
  rw [← hX, ← hW]
  clear hX hW
  refine CA.mono ?_
  rintro e w1 ⟨rfl, hw1⟩
  have hx : w.heap.size ≤ X := by have := HX.out; omega
  have K1 : Hid (Below w.heap.size w w1) := by
    rw [hw1]
    have h1 := (((K0.out.alloc K0.out.size (.cells #[.pointer (some ⟨X, 0, none⟩)] 95)).alloc (by have := K0.out.size; simp; omega) (.cells #[.pointer (some ⟨1, 95, none⟩), .pointer (some ⟨W.heap.size, 0, none⟩), .int .u64 150] 122)).alloc (by have := K0.out.size; simp; omega) (.cells #[.pointer (some ⟨1, 95, none⟩), .pointer (some ⟨W.heap.size, 0, none⟩), .int .u64 150] 122)).alloc (by have := K0.out.size; simp; omega) (.cells #[.int .i64 c] 93)
    exact h1.setCell (p := ⟨X, 0, none⟩) hx _
  have hlt := World.block_lt_of_cell? _ _ HT.out
  simp only at hlt
  have hc1 : w1.cell? ⟨X, 0, none⟩ = some (.int .i64 c) := by
    rw [hw1]
    refine World.cell?_setCell_same _ _ _ (u := .int .i64 0) ?_
    rw [World.cell?_alloc_lt _ _ _ (by simp; omega), World.cell?_alloc_lt _ _ _ (by simp; omega), World.cell?_alloc_lt _ _ _ (by simp; omega), World.cell?_alloc_lt _ _ _ hlt]
    exact HT.out
  have hz1 := World.block_lt_of_cell? _ _ hc1
  simp only at hz1
  clear hw1 hlt CA hx
  go_wp2
  go_ret
  exact ⟨rfl, K1.out⟩

set_option maxRecDepth 100000 in
set_option maxHeartbeats 4000000 in
theorem implBookOk (a : Option Addr) (n c : Nat) (B : List PostD) (w : World) (hP : PostsAt w a n c B) (hg : HasEt w) :
    Calls Tryd.prog 10 #[.slice a n c] w fun e w' => e = .returned (.bool (bookB B)) ∧ Below w.heap.size w w' := by
  have HG : Hid (HasEt w) := hg
  clear hg
  go_enter Tryd.func10, Tryd.ntmps10
  go_wp2_with fail
  refine (implTally a n c B _ hP).mono ?_
  intro e w1 hR
  rcases hR with ⟨hb, T, mi, mb, va, rfl, hT, hmi, hmb, hb1⟩ | ⟨hb, c0, hc0, rfl, hb1⟩
  · obtain ⟨av, cv, rfl⟩ := row_slice hT.row
    have HB1 : Hid (Below w.heap.size w w1) := hb1
    have HBB : Hid (bookB B = true) := hb
    clear hT hmi hmb hb1 hb
    go_wp2_with fail
    refine (implCodeNil _).mono ?_
    rintro e w2 ⟨rfl, hb2⟩
    have K2 : Hid (Below w.heap.size w w2) := (HB1.out.alloc HB1.out.size _).trans (hb2.mono (HB1.out.alloc HB1.out.size _).size)
    clear hb2
    go_wp2
    go_ret
    exact ⟨by rw [HBB.out]; first | rfl | simp, K2.out⟩
  · have HB1 : Hid (Below w.heap.size w w1) := hb1
    have HBB : Hid (bookB B = false) := hb
    have hcb : (c0 == 0) = false := by simpa using hc0
    clear hb1 hb
    go_wp2_with fail
    refine (implCodeHit c0 _ (HG.out.keep (HB1.out.alloc HB1.out.size _))).mono ?_
    rintro e w2 ⟨rfl, hb2⟩
    have K2 : Hid (Below w.heap.size w w2) := (HB1.out.alloc HB1.out.size _).trans (hb2.mono (HB1.out.alloc HB1.out.size _).size)
    clear hb2
    go_wp2
    go_ret
    exact ⟨by rw [HBB.out]; first | rfl | simpa using hc0, K2.out⟩
end Go.Proofs.YtoegpdinokjbmaaDoor
