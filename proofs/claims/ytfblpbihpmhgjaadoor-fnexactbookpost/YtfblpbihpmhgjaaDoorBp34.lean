/-
  The program's codeOf and BookOk, by walks of their Go text.
  Contracts of the library's slices package at this program, laid by the kit's own command.
-/
import Derived.Test.YtfblpbihpmhgjaaDoorBp21
import Derived.Test.YtfblpbihpmhgjaaDoorBp33
import Derived.Ground.SlgnProg
import Derived.Shelf.SlicesE.Clone
import Derived.Test.YtfblpbihpmhgjaaDoorProg
namespace Go.Proofs.YtfblpbihpmhgjaaDoor
open Go.RowKit

/-- What package errors' own variable holds. -/
def HasEt (w : World) : Prop := w.cell? ⟨1, 0, none⟩ = some (.iface 213 (.agg #[.pointer (some ⟨8, 119, none⟩)]))
theorem HasEt.keep {w w' : World} (h : HasEt w) (hb : Below w.heap.size w w') : HasEt w' := cell_later hb h

set_option maxRecDepth 100000 in
set_option maxHeartbeats 4000000 in
theorem implCodeNil (w : World) : Calls Tryd.prog 89 #[.nilIface] w fun e w' => e = .returned (.int .i64 0) ∧ Below w.heap.size w w' := by
  have k : Hid (Below w.heap.size w (w.alloc (.cells #[.int .i64 0] 159))) := (Below.refl _ _).alloc (Nat.le_refl _) _
  go_enter Tryd.func89, Tryd.ntmps89
  go_wp2_with (go_at_call 122; refine (as_nil _ _).mono ?_; rintro e w' ⟨rfl, rfl⟩)
  go_ret
  exact ⟨rfl, k.out⟩

set_option maxRecDepth 100000 in
set_option maxHeartbeats 4000000 in
theorem implCodeHit (c : Int) (w : World) (hg : HasEt w) : Calls Tryd.prog 89 #[.iface 159 (.agg #[.int .i64 c])] w fun e w' => e = .returned (.int .i64 c) ∧ Below w.heap.size w w' := by
  obtain ⟨X, hX⟩ : ∃ X, X = w.heap.size := ⟨_, rfl⟩
  obtain ⟨W, hW⟩ : ∃ W, W = w.alloc (.cells #[.int .i64 0] 159) := ⟨_, rfl⟩
  have kW : Below w.heap.size w W := by rw [hW]; exact (Below.refl _ _).alloc (Nat.le_refl _) _
  have hgA : HasEt W := hg.keep kW
  have htA : W.cell? ⟨X, 0, none⟩ = some (.int .i64 0) := by rw [hW, hX]; simp
  have hfA : W.frozen? ⟨X, 0, none⟩ = false := by rw [hW, hX]; simp
  have CA := as_hit c ⟨X, 0, none⟩ (.int .i64 0) W hgA htA hfA
  have HX : Hid (X = w.heap.size) := hX
  have K0 : Hid (Below w.heap.size w W) := kW
  have HT : Hid (W.cell? ⟨X, 0, none⟩ = some (.int .i64 0)) := htA
  clear hgA htA hfA kW hg
  go_enter Tryd.func89, Tryd.ntmps89
  go_wp2_with fail
  rw [← hX, ← hW]
  clear hX hW
  refine CA.mono ?_
  rintro e w1 ⟨rfl, hw1⟩
  have hx : w.heap.size ≤ X := by have := HX.out; omega
  have K1 : Hid (Below w.heap.size w w1) := by
    rw [hw1]
    have h1 := (((K0.out.alloc K0.out.size (.cells #[.pointer (some ⟨X, 0, none⟩)] 161)).alloc (by have := K0.out.size; simp; omega) (.cells #[.pointer (some ⟨8, 161, none⟩), .pointer (some ⟨W.heap.size, 0, none⟩), .int .u64 150] 184)).alloc (by have := K0.out.size; simp; omega) (.cells #[.pointer (some ⟨8, 161, none⟩), .pointer (some ⟨W.heap.size, 0, none⟩), .int .u64 150] 184)).alloc (by have := K0.out.size; simp; omega) (.cells #[.int .i64 c] 159)
    exact h1.setCell (p := ⟨X, 0, none⟩) hx _
  have hlt := World.block_lt_of_cell? _ _ HT.out
  simp only at hlt
  have hc1 : w1.cell? ⟨X, 0, none⟩ = some (.int .i64 c) := by
    rw [hw1]
    refine World.cell?_setCell_same _ _ _ (u := .int .i64 0) ?_
    rw [World.cell?_alloc_lt _ _ _ (by simp; omega), World.cell?_alloc_lt _ _ _ (by simp; omega), World.cell?_alloc_lt _ _ _ (by simp; omega), World.cell?_alloc_lt _ _ _ hlt]
    exact HT.out
  have hz1 := World.block_lt_of_cell? _ _ hc1
  simp only at hz1
  clear hw1 hlt CA hx
  go_wp2
  go_ret
  exact ⟨rfl, K1.out⟩

set_option maxRecDepth 100000 in
set_option maxHeartbeats 4000000 in
theorem implBookOk (a : Option Addr) (n c : Nat) (B : List PostD) (w : World) (hP : PostsAt w a n c B) (hg : HasEt w) :
    Calls Tryd.prog 46 #[.slice a n c] w fun e w' => e = .returned (.bool (bookB B)) ∧ Below w.heap.size w w' := by
  have HG : Hid (HasEt w) := hg
  clear hg
  go_enter Tryd.func46, Tryd.ntmps46
  go_wp2_with fail
  refine (implTally a n c B _ hP).mono ?_
  intro e w1 hR
  rcases hR with ⟨hb, T, mi, mb, va, rfl, hT, hmi, hmb, hb1⟩ | ⟨hb, c0, hc0, rfl, hb1⟩
  · obtain ⟨av, cv, rfl⟩ := row_slice hT.row
    have HB1 : Hid (Below w.heap.size w w1) := hb1
    have HBB : Hid (bookB B = true) := hb
    clear hT hmi hmb hb1 hb
    go_wp2_with fail
    refine (implCodeNil _).mono ?_
    rintro e w2 ⟨rfl, hb2⟩
    have K2 : Hid (Below w.heap.size w w2) := (HB1.out.alloc HB1.out.size _).trans (hb2.mono (HB1.out.alloc HB1.out.size _).size)
    clear hb2
    go_wp2
    go_ret
    exact ⟨by rw [HBB.out]; first | rfl | simp, K2.out⟩
  · have HB1 : Hid (Below w.heap.size w w1) := hb1
    have HBB : Hid (bookB B = false) := hb
    have hcb : (c0 == 0) = false := by simpa using hc0
    clear hb1 hb
    go_wp2_with fail
    refine (implCodeHit c0 _ (HG.out.keep (HB1.out.alloc HB1.out.size _))).mono ?_
    rintro e w2 ⟨rfl, hb2⟩
    have K2 : Hid (Below w.heap.size w w2) := (HB1.out.alloc HB1.out.size _).trans (hb2.mono (HB1.out.alloc HB1.out.size _).size)
    clear hb2
    go_wp2
    go_ret
    exact ⟨by rw [HBB.out]; first | rfl | simpa using hc0, K2.out⟩
end Go.Proofs.YtfblpbihpmhgjaaDoor

namespace Go.Proofs.YtfblpbihpmhgjaaDoor
open Go.Shelf
def Tryd.cloneG_ren : Go.Shelf.Ren := ⟨fun | 41 => 119 | n => n, fun | 22 => 27 | 23 => 69 | 4 => 4 | n => n, fun | n => n⟩
theorem Tryd.cloneG : Go.Proofs.SlLaysE0.n41 Tryd.prog Tryd.cloneG_ren := {
  mixed := by kernel_rfl
  f41 := ⟨Tryd.f119.name, by decide, Tryd.func119.trans (congrArg some (by kernel_rfl))⟩
  t4 := Tryd.underlying4
  a4 := Tryd.isAgg4
  z4 := Tryd.sizeOf4
  v4 := Tryd.zeroValue4
  t22 := Tryd.underlying27
  a22 := Tryd.isAgg27
  z22 := Tryd.sizeOf27
  v22 := Tryd.zeroValue27 }
end Go.Proofs.YtfblpbihpmhgjaaDoor
