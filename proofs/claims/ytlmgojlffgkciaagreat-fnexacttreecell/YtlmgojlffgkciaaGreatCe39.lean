/-
  Contracts of the library's slices package at this program, laid by the kit's own command.
  The library's copy and its sort, at rows of entries: what they leave.
  An array's elements by their places.
  Where a copy of a tree lies (its blocks, by kinds), and the laws' marks on it: only those blocks are written; by walks of their Go text.
  Levels, numbers, trees in memory of a call's own; the laws' marks on them, and the marks found again; by walks of their Go text.
  A tree in memory of a call's own, every list in a block of its own; the laws' marks on it, and the marks found again; by walks of their Go text.
  The laws' copy of a run, in memory of the call's own, by a walk of their Go text.
-/
import Derived.Ground.SlgnProg
import Derived.Shelf.SlicesE.Clone
import Derived.Test.YtlmgojlffgkciaaGreatProg
import Derived.Ground.SlsfProg
import Derived.Shelf.SlSortCmp.WholeK
import Derived.Test.YtlmgojlffgkciaaGreatCe26
import Derived.Test.YtlmgojlffgkciaaGreatCe28
import Derived.Test.YtlmgojlffgkciaaGreatCe02
import Derived.Deep.DeepCutAuto
import Derived.Lib.SlBytesRow
import Derived.Deep.LoopGhost
import Derived.WalkKit
import Derived.WalkSpells
import Derived.WalkLawsBesides
import Derived.Test.YtlmgojlffgkciaaGreatCe00
import Derived.Test.YtlmgojlffgkciaaGreatCe01
import Derived.Test.YtlmgojlffgkciaaGreatCe05
import Derived.Test.YtlmgojlffgkciaaGreatCe12
import Derived.Test.YtlmgojlffgkciaaGreatCe34
import Derived.Test.YtlmgojlffgkciaaGreatCe21
namespace Go.Proofs.YtlmgojlffgkciaaGreat
open Go.Shelf
def Tryz.cloneL_ren : Go.Shelf.Ren := ⟨fun | 41 => 89 | n => n, fun | 22 => 28 | 23 => 78 | 4 => 4 | n => n, fun | n => n⟩
theorem Tryz.cloneL : Go.Proofs.SlLaysE0.n41 Tryz.prog Tryz.cloneL_ren := {
  mixed := by kernel_rfl
  f41 := ⟨Tryz.f89.name, by decide, Tryz.func89.trans (congrArg some (by kernel_rfl))⟩
  t4 := Tryz.underlying4
  a4 := Tryz.isAgg4
  z4 := Tryz.sizeOf4
  v4 := Tryz.zeroValue4
  t22 := Tryz.underlying28
  a22 := Tryz.isAgg28
  z22 := Tryz.sizeOf28
  v22 := Tryz.zeroValue28 }
end Go.Proofs.YtlmgojlffgkciaaGreat

namespace Go.Proofs.YtlmgojlffgkciaaGreat
set_option maxRecDepth 100000
open Go.RowKit Go.Sort
theorem cloneRow (b n c : Nat) (L : List EntD) (w : World) (hL : EntsAt w (some ⟨b, 0, none⟩) n c L) (hn : n ≤ 1048576) :
    Calls Tryz.prog 89 #[.slice (some ⟨b, 0, none⟩) n c] w fun e w' => ∃ g c', e = .returned (.slice (some ⟨g, 0, none⟩) n c') ∧ OwnE w' w.heap.size g n c' L ∧ Below w.heap.size w w' := by
  obtain ⟨i0, hi, hz0, hz1, hz2⟩ := info_parts Tryz.infoEnt
  have h := AnyE.slices_Clone Tryz.cloneL i0 _ 5 56 hi hz0 hz1 hz2 rfl (by decide) Tryz.sizeOf78 b 0 n c (flatE L) w (by rw [flatE_len, hL.length]) (by unfold maxLen; omega) (by omega) (fun j u hu => by have := ents_news hL j u hu; rwa [WideShapes.add_plain] at this) (flatE_one _)
  have h' : Calls Tryz.prog 89 #[.slice (some ⟨b, 0, none⟩) n c] w fun e w' => ∃ v', e = .returned v' ∧ w'.ownsRow w.heap.size 78 5 v' n (flatE L) ∧ v' ≠ .slice none 0 0 ∧ Below w.heap.size w w' := h
  refine h'.mono ?_
  rintro e w' ⟨v', rfl, ho, hne, hb⟩
  obtain ⟨g, c', rfl⟩ : ∃ g cap, v' = .slice (some ⟨g, 0, none⟩) n cap := by
    rcases ho.2 with ⟨hv, h0⟩ | ⟨g, cap, cur, hv, _⟩
    · exact absurd hv hne
    · exact ⟨g, cap, hv⟩
  exact ⟨g, c', rfl, ⟨ho, hL.length, hL.ents⟩, hb⟩
end Go.Proofs.YtlmgojlffgkciaaGreat

namespace Go.Proofs.YtlmgojlffgkciaaGreat
open Go.RowKit
theorem idxR_0 (w : World) (a0 a1 a2 : Option Addr) (n0 c0 n1 c1 n2 c2 : Nat) : (Instr.index 65 (.agg #[.slice a0 n0 c0, .slice a1 n1 c1, .slice a2 n2 c2]) (.int .i64 0)).run Tryz.prog w = .ok (.slice a0 n0 c0) w := by
  simp [Instr.index, run_underlying Tryz.underlying65, asIntOf, go_sem, Tryz.isAgg64, Tryz.sizeOf64, part]
theorem idxR_1 (w : World) (a0 a1 a2 : Option Addr) (n0 c0 n1 c1 n2 c2 : Nat) : (Instr.index 65 (.agg #[.slice a0 n0 c0, .slice a1 n1 c1, .slice a2 n2 c2]) (.int .i64 1)).run Tryz.prog w = .ok (.slice a1 n1 c1) w := by
  simp [Instr.index, run_underlying Tryz.underlying65, asIntOf, go_sem, Tryz.isAgg64, Tryz.sizeOf64, part]
theorem idxR_2 (w : World) (a0 a1 a2 : Option Addr) (n0 c0 n1 c1 n2 c2 : Nat) : (Instr.index 65 (.agg #[.slice a0 n0 c0, .slice a1 n1 c1, .slice a2 n2 c2]) (.int .i64 2)).run Tryz.prog w = .ok (.slice a2 n2 c2) w := by
  simp [Instr.index, run_underlying Tryz.underlying65, asIntOf, go_sem, Tryz.isAgg64, Tryz.sizeOf64, part]
end Go.Proofs.YtlmgojlffgkciaaGreat

namespace Go.Proofs.YtlmgojlffgkciaaGreat
open Go.RowKit
attribute [local go_sem] Oper.semAt_some
def EntBl (lo hi : Nat) (w : World) (g m : Nat) : Prop := lo ≤ g ∧ g < hi ∧ BlockOf w g 78 (m * 5)
structure RunsBl (lo hi : Nat) (w : World) (g : Nat) (B : List RunD) : Prop where
  at1 : lo ≤ g
  at2 : g < hi
  blk : BlockOf w g 102 (B.length * 2)
  runs : ∀ (i : Nat) (p : RunD), B[i]? = some p → ∃ e, w.cell? ⟨g, i * 2, none⟩ = some (.slice (some ⟨e, 0, none⟩) p.1.length p.1.length) ∧ EntBl lo hi w e p.1.length
structure LevsBl (lo hi : Nat) (w : World) (g : Nat) (V : List (List RunD)) : Prop where
  at1 : lo ≤ g
  at2 : g < hi
  blk : BlockOf w g 64 (V.length * 1)
  levs : ∀ (i : Nat) (B : List RunD), V[i]? = some B → ∃ e, w.cell? ⟨g, i, none⟩ = some (.slice (some ⟨e, 0, none⟩) B.length B.length) ∧ RunsBl lo hi w e B
theorem EntBl.mono {lo hi lo' hi' g m : Nat} {w : World} (h : EntBl lo hi w g m) (h1 : lo' ≤ lo) (h2 : hi ≤ hi') : EntBl lo' hi' w g m := ⟨Nat.le_trans h1 h.1, Nat.lt_of_lt_of_le h.2.1 h2, h.2.2⟩
theorem RunsBl.mono {lo hi lo' hi' g : Nat} {w : World} {B : List RunD} (h : RunsBl lo hi w g B) (h1 : lo' ≤ lo) (h2 : hi ≤ hi') : RunsBl lo' hi' w g B :=
  ⟨Nat.le_trans h1 h.at1, Nat.lt_of_lt_of_le h.at2 h2, h.blk, fun i p hp => by obtain ⟨e, c, b⟩ := h.runs i p hp; exact ⟨e, c, b.mono h1 h2⟩⟩
theorem LevsBl.mono {lo hi lo' hi' g : Nat} {w : World} {V : List (List RunD)} (h : LevsBl lo hi w g V) (h1 : lo' ≤ lo) (h2 : hi ≤ hi') : LevsBl lo' hi' w g V :=
  ⟨Nat.le_trans h1 h.at1, Nat.lt_of_lt_of_le h.at2 h2, h.blk, fun i p hp => by obtain ⟨e, c, b⟩ := h.levs i p hp; exact ⟨e, c, b.mono h1 h2⟩⟩
end Go.Proofs.YtlmgojlffgkciaaGreat

namespace Go.Proofs.YtlmgojlffgkciaaGreat
open Go.RowKit
attribute [local go_sem] Oper.semAt_some
def IntsO (lo : Nat) (w : World) (g n : Nat) (S : List Int) : Prop := S.length = n ∧ w.ownsRow lo 3 1 (.slice (some ⟨g, 0, none⟩) n n) n (S.map (Value.int .i64))
end Go.Proofs.YtlmgojlffgkciaaGreat

namespace Go.Proofs.YtlmgojlffgkciaaGreat
open Go.RowKit
theorem IntsO.grown {lo g n : Nat} {w w' : World} {S : List Int} {row : Option Nat} (h : IntsO lo w g n S) (hg : w.grownBy w' row) (hne : some g ≠ row) : IntsO lo w' g n S := ⟨h.1, h.2.kept hg (.inr (by simpa [Value.ownBlock] using hne))⟩
end Go.Proofs.YtlmgojlffgkciaaGreat

namespace Go.Proofs.YtlmgojlffgkciaaGreat
open Go.RowKit
set_option maxHeartbeats 400000 in
theorem toRun_own (m : Int) (a : Option Addr) (len cap : Nat) (L : List EntD) (w : World) (hL : EntsAt w a len cap L) (hbig : len ≤ 1048576) :
    Calls Tryz.prog 120 #[.agg #[.slice a len cap, .int .i64 m]] w fun e w' => ∃ b, e = .returned (.agg #[.slice (some ⟨b, 0, none⟩) len len, .int .i64 m]) ∧ w.heap.size ≤ b ∧ b < w'.heap.size ∧ OwnE w' w.heap.size b len len L ∧ Below w.heap.size w w' := by
  go_enter Tryz.func120, Tryz.ntmps120
  go_wp2_with fail
  refine (toEntS_own _ _ _ L _ (hL.keep ?_) hbig).mono ?_
  · exact (((Below.refl _ _).alloc (Nat.le_refl _) _).alloc (by simp) _).alloc (by simp; omega) _
  rintro e w1 ⟨rfl, hL1, hlt1, hb1⟩
  simp only [World.size_alloc] at hlt1
  obtain ⟨hc1, hf1⟩ := bcell hb1
  have hz := hb1.size
  simp at hz
  have HL1 : Hid (OwnE w1 w.heap.size (w.heap.size + 1 + 1 + 1) len len L) := by
    have := hL1.mono (base' := w.heap.size) (by simp; omega)
    simpa [Hid] using this
  have HZ : Hid (w.heap.size + 1 + 1 + 1 < w1.heap.size) := hlt1
  clear hL1 hlt1
  go_wp2
  refine bodyPost_ret (v := .agg #[.slice (some ⟨w.heap.size + 1 + 1 + 1, 0, none⟩) len len, .int .i64 m]) (by simp [results, Tryz.results120, go_sem, hc1]) rfl ⟨w.heap.size + 1 + 1 + 1, rfl, by omega, by simpa [World.setCell] using HZ.out, ?_, ?_⟩
  · refine ((((HL1.out.setCell ?_ _).setCell ?_ _).setCell ?_ _).setCell ?_ _) <;> (simp; try omega)
  · have hB : Below w.heap.size w w1 := ((((Below.refl _ _).alloc (Nat.le_refl _) _).alloc (by simp) _).alloc (by simp; omega) _).trans (hb1.mono (by simp; omega))
    exact ((((hB.setCell (p := ⟨w.heap.size + 1 + 1, 0, none⟩) (by simp; omega) _).setCell (p := ⟨w.heap.size + 1 + 1, 1, none⟩) (by simp; omega) _).setCell (p := ⟨w.heap.size + 1, 0, none⟩) (by simp) _).setCell (p := ⟨w.heap.size + 1, 1, none⟩) (by simp) _)
end Go.Proofs.YtlmgojlffgkciaaGreat
