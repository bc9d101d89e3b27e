/-
  The program's shareTree: what it answers at every tree; by walks of its Go text.
  The reader from which the laws draw: how it lies in memory.
  Rows that are appended to, and a step law for append in a region that draws its order; no statement of the program stands here.
-/
import Derived.Laws.IdiomCopy
import Derived.Deep.RegionWith
import Derived.Deep.DeepCutAuto
import Derived.Test.YtlmgojlffgkciaaGreatCe23
import Derived.Test.YtlmgojlffgkciaaGreatCe24
import Derived.WalkKit
import Derived.WalkSpells
import Derived.WalkLawsBesides
import Derived.Deep.QuietTactic
import Derived.BigQuiet
import Derived.Test.YtlmgojlffgkciaaGreatProg
import Derived.Test.YtlmgojlffgkciaaGreatCe00
import Derived.Deep.RegionLaw
namespace Go.Proofs.YtlmgojlffgkciaaGreat
open Go.RowKit
set_option maxRecDepth 100000
set_option maxHeartbeats 4000000
structure Box6 (w : World) (b : Nat) (u0 u1 u2 u3 u4 u5 : Value) : Prop where
  c0 : w.cell? ⟨b, 0, none⟩ = some u0
  c1 : w.cell? ⟨b, 1, none⟩ = some u1
  c2 : w.cell? ⟨b, 2, none⟩ = some u2
  c3 : w.cell? ⟨b, 3, none⟩ = some u3
  c4 : w.cell? ⟨b, 4, none⟩ = some u4
  c5 : w.cell? ⟨b, 5, none⟩ = some u5
  fz : ∀ o, w.frozen? ⟨b, o, none⟩ = false
theorem Box6.lt {w : World} {b : Nat} {u0 u1 u2 u3 u4 u5 : Value} (h : Box6 w b u0 u1 u2 u3 u4 u5) : b < w.heap.size := World.block_lt_of_cell? w _ h.c0
theorem Box6.new (w : World) (t : TypeId) (u0 u1 u2 u3 u4 u5 : Value) : Box6 (w.alloc (.cells #[u0, u1, u2, u3, u4, u5] t)) w.heap.size u0 u1 u2 u3 u4 u5 := ⟨by simp, by simp, by simp, by simp, by simp, by simp, fun o => by simp⟩
theorem Box6.below {B : Nat} {w w' : World} {b : Nat} {u0 u1 u2 u3 u4 u5 : Value} (h : Box6 w b u0 u1 u2 u3 u4 u5) (hb : Below B w w') (hB : b < B) : Box6 w' b u0 u1 u2 u3 u4 u5 :=
  ⟨(hb.cell (p := ⟨b, 0, none⟩) hB).trans h.c0, (hb.cell (p := ⟨b, 1, none⟩) hB).trans h.c1, (hb.cell (p := ⟨b, 2, none⟩) hB).trans h.c2, (hb.cell (p := ⟨b, 3, none⟩) hB).trans h.c3, (hb.cell (p := ⟨b, 4, none⟩) hB).trans h.c4, (hb.cell (p := ⟨b, 5, none⟩) hB).trans h.c5, fun o => (World.frozen?_of_block (hb.block b hB)).trans (h.fz o)⟩
theorem Box6.keep {w w' : World} {b : Nat} {u0 u1 u2 u3 u4 u5 : Value} (h : Box6 w b u0 u1 u2 u3 u4 u5) (hb : Below w.heap.size w w') : Box6 w' b u0 u1 u2 u3 u4 u5 := h.below hb h.lt
theorem Box6.alloc {w : World} {b : Nat} {u0 u1 u2 u3 u4 u5 : Value} (h : Box6 w b u0 u1 u2 u3 u4 u5) (o : Obj) : Box6 (w.alloc o) b u0 u1 u2 u3 u4 u5 := h.keep ((Below.refl _ _).alloc (Nat.le_refl _) _)
theorem Box6.other {w : World} {b : Nat} {u0 u1 u2 u3 u4 u5 : Value} (h : Box6 w b u0 u1 u2 u3 u4 u5) {b' o : Nat} (hp : b' ≠ b) (x : Value) : Box6 (w.setCell ⟨b', o, none⟩ x) b u0 u1 u2 u3 u4 u5 :=
  ⟨(cell_elsewhere x (fun e => hp e.1.symm)).trans h.c0, (cell_elsewhere x (fun e => hp e.1.symm)).trans h.c1, (cell_elsewhere x (fun e => hp e.1.symm)).trans h.c2, (cell_elsewhere x (fun e => hp e.1.symm)).trans h.c3, (cell_elsewhere x (fun e => hp e.1.symm)).trans h.c4, (cell_elsewhere x (fun e => hp e.1.symm)).trans h.c5, fun o => by rw [World.frozen?_setCell]; exact h.fz o⟩
theorem Box6.set0 {w : World} {b : Nat} {u0 u1 u2 u3 u4 u5 : Value} (h : Box6 w b u0 u1 u2 u3 u4 u5) (x : Value) : Box6 (w.setCell ⟨b, 0, none⟩ x) b x u1 u2 u3 u4 u5 :=
  ⟨World.cell?_setCell_same' _ _ _ (by rw [h.c0]; rfl), (cell_elsewhere x (by simp)).trans h.c1, (cell_elsewhere x (by simp)).trans h.c2, (cell_elsewhere x (by simp)).trans h.c3, (cell_elsewhere x (by simp)).trans h.c4, (cell_elsewhere x (by simp)).trans h.c5, fun o => by rw [World.frozen?_setCell]; exact h.fz o⟩
theorem Box6.set1 {w : World} {b : Nat} {u0 u1 u2 u3 u4 u5 : Value} (h : Box6 w b u0 u1 u2 u3 u4 u5) (x : Value) : Box6 (w.setCell ⟨b, 1, none⟩ x) b u0 x u2 u3 u4 u5 :=
  ⟨(cell_elsewhere x (by simp)).trans h.c0, World.cell?_setCell_same' _ _ _ (by rw [h.c1]; rfl), (cell_elsewhere x (by simp)).trans h.c2, (cell_elsewhere x (by simp)).trans h.c3, (cell_elsewhere x (by simp)).trans h.c4, (cell_elsewhere x (by simp)).trans h.c5, fun o => by rw [World.frozen?_setCell]; exact h.fz o⟩
theorem Box6.set2 {w : World} {b : Nat} {u0 u1 u2 u3 u4 u5 : Value} (h : Box6 w b u0 u1 u2 u3 u4 u5) (x : Value) : Box6 (w.setCell ⟨b, 2, none⟩ x) b u0 u1 x u3 u4 u5 :=
  ⟨(cell_elsewhere x (by simp)).trans h.c0, (cell_elsewhere x (by simp)).trans h.c1, World.cell?_setCell_same' _ _ _ (by rw [h.c2]; rfl), (cell_elsewhere x (by simp)).trans h.c3, (cell_elsewhere x (by simp)).trans h.c4, (cell_elsewhere x (by simp)).trans h.c5, fun o => by rw [World.frozen?_setCell]; exact h.fz o⟩
theorem Box6.set3 {w : World} {b : Nat} {u0 u1 u2 u3 u4 u5 : Value} (h : Box6 w b u0 u1 u2 u3 u4 u5) (x : Value) : Box6 (w.setCell ⟨b, 3, none⟩ x) b u0 u1 u2 x u4 u5 :=
  ⟨(cell_elsewhere x (by simp)).trans h.c0, (cell_elsewhere x (by simp)).trans h.c1, (cell_elsewhere x (by simp)).trans h.c2, World.cell?_setCell_same' _ _ _ (by rw [h.c3]; rfl), (cell_elsewhere x (by simp)).trans h.c4, (cell_elsewhere x (by simp)).trans h.c5, fun o => by rw [World.frozen?_setCell]; exact h.fz o⟩
theorem Box6.set4 {w : World} {b : Nat} {u0 u1 u2 u3 u4 u5 : Value} (h : Box6 w b u0 u1 u2 u3 u4 u5) (x : Value) : Box6 (w.setCell ⟨b, 4, none⟩ x) b u0 u1 u2 u3 x u5 :=
  ⟨(cell_elsewhere x (by simp)).trans h.c0, (cell_elsewhere x (by simp)).trans h.c1, (cell_elsewhere x (by simp)).trans h.c2, (cell_elsewhere x (by simp)).trans h.c3, World.cell?_setCell_same' _ _ _ (by rw [h.c4]; rfl), (cell_elsewhere x (by simp)).trans h.c5, fun o => by rw [World.frozen?_setCell]; exact h.fz o⟩
theorem Box6.set5 {w : World} {b : Nat} {u0 u1 u2 u3 u4 u5 : Value} (h : Box6 w b u0 u1 u2 u3 u4 u5) (x : Value) : Box6 (w.setCell ⟨b, 5, none⟩ x) b u0 u1 u2 u3 u4 x :=
  ⟨(cell_elsewhere x (by simp)).trans h.c0, (cell_elsewhere x (by simp)).trans h.c1, (cell_elsewhere x (by simp)).trans h.c2, (cell_elsewhere x (by simp)).trans h.c3, (cell_elsewhere x (by simp)).trans h.c4, World.cell?_setCell_same' _ _ _ (by rw [h.c5]; rfl), fun o => by rw [World.frozen?_setCell]; exact h.fz o⟩
theorem implShare (lo : Nat) (sq : Int) (am ak : Option Addr) (nm cm b o cv nk ck : Nat) (M : List EntD) (A B C : List RunD) (S : List Int) (a0 a1 a2 : Option Addr) (n0 c0 n1 c1 n2 c2 : Nat) (w : World) (hM : EntsAt w am nm cm M) (hS : IntsIn lo w ak nk ck S) (h0 : RunsIn lo w a0 n0 c0 A) (h1 : RunsIn lo w a1 n1 c1 B) (h2 : RunsIn lo w a2 n2 c2 C)
    (l0 : w.cell? ⟨b, o, none⟩ = some (.slice a0 n0 c0)) (l1 : w.cell? ⟨b, o + 1, none⟩ = some (.slice a1 n1 c1)) (l2 : w.cell? ⟨b, o + 2, none⟩ = some (.slice a2 n2 c2)) :
    Calls Tryz.prog 53 #[.agg #[.int .i64 sq, .slice am nm cm, .slice (some ⟨b, o, none⟩) 3 cv, .slice ak nk ck]] w fun e w' => e = .returned (.tuple #[.agg #[.int .i64 sq, .slice am nm cm, .slice a0 n0 c0, .slice a1 n1 c1, .slice a2 n2 c2, .slice ak nk ck], .bool (treeB sq M [A, B, C] S)]) ∧ Below w.heap.size w w' := by
  have hbw := World.block_lt_of_cell? _ _ l0
  simp only at hbw
  obtain ⟨X, hX⟩ : ∃ X, X = w.heap.size := ⟨_, rfl⟩
  obtain ⟨W, hW⟩ : ∃ W, W = ((w.alloc (.cells #[.int .i64 sq, .slice am nm cm, .slice (some ⟨b, o, none⟩) 3 cv, .slice ak nk ck] 31)).alloc (.cells #[.int .i64 0, .slice none 0 0, .slice none 0 0, .slice none 0 0, .slice none 0 0, .slice none 0 0] 67)).alloc (.cells #[.int .i64 sq, .slice am nm cm, .slice none 0 0, .slice none 0 0, .slice none 0 0, .slice ak nk ck] 67) := ⟨_, rfl⟩
  have kW : Below w.heap.size w W := by rw [hW]; exact (((Below.refl _ _).alloc (Nat.le_refl _) _).alloc (by simp) _).alloc (by simp; omega) _
  have xa : (w.alloc (.cells #[.int .i64 sq, .slice am nm cm, .slice (some ⟨b, o, none⟩) 3 cv, .slice ak nk ck] 31)).cell? ⟨X, 2, none⟩ = some (.slice (some ⟨b, o, none⟩) 3 cv) := by rw [hX]; simp
  have x2 : W.cell? ⟨X, 2, none⟩ = some (.slice (some ⟨b, o, none⟩) 3 cv) := by
    rw [hW]
    exact cell_later ((Below.refl _ _).alloc (Nat.le_refl _) _) (cell_later ((Below.refl _ _).alloc (Nat.le_refl _) _) xa)
  have br : Box6 W (X + 1) (.int .i64 0) (.slice none 0 0) (.slice none 0 0) (.slice none 0 0) (.slice none 0 0) (.slice none 0 0) := by
    have := (Box6.new (w.alloc (.cells #[.int .i64 sq, .slice am nm cm, .slice (some ⟨b, o, none⟩) 3 cv, .slice ak nk ck] 31)) 67 (.int .i64 0) (.slice none 0 0) (.slice none 0 0) (.slice none 0 0) (.slice none 0 0) (.slice none 0 0)).alloc (.cells #[.int .i64 sq, .slice am nm cm, .slice none 0 0, .slice none 0 0, .slice none 0 0, .slice ak nk ck] 67)
    rw [World.size_alloc] at this
    rw [hW, hX]
    exact this
  have bs : Box6 W (X + 1 + 1) (.int .i64 sq) (.slice am nm cm) (.slice none 0 0) (.slice none 0 0) (.slice none 0 0) (.slice ak nk ck) := by
    have := Box6.new ((w.alloc (.cells #[.int .i64 sq, .slice am nm cm, .slice (some ⟨b, o, none⟩) 3 cv, .slice ak nk ck] 31)).alloc (.cells #[.int .i64 0, .slice none 0 0, .slice none 0 0, .slice none 0 0, .slice none 0 0, .slice none 0 0] 67)) 67 (.int .i64 sq) (.slice am nm cm) (.slice none 0 0) (.slice none 0 0) (.slice none 0 0) (.slice ak nk ck)
    rw [World.size_alloc, World.size_alloc] at this
    rw [hW, hX]
    exact this
  have k0 := cell_later kW l0
  have k1 := cell_later kW l1
  have k2 := cell_later kW l2
  have hcp : (Builtin.copy_ #[29, 29] 3 #[.slice (some ⟨X + 1 + 1, 2, none⟩) 3 3, .slice (some ⟨b, o, none⟩) 3 cv]).run Tryz.prog W.drew = .ok (goInt 3) (W.drew.setCells (X + 1 + 1) 2 [.slice a0 n0 c0, .slice a1 n1 c1, .slice a2 n2 c2]) := by
    refine run_copy_cells (P := Tryz.prog) W.drew 29 29 3 64 (X + 1 + 1) 2 3 3 ⟨b, o, none⟩ 3 cv [.slice a0 n0 c0, .slice a1 n1 c1, .slice a2 n2 c2] Tryz.underlying29 (by kernel_rfl) rfl ?_ ?_ ?_ ?_
    · intro j v hj
      rw [Go.WideShapes.add_plain]
      match j, hj with
      | 0, hj => simp at hj; subst hj; exact k0
      | 1, hj => simp at hj; subst hj; exact k1
      | 2, hj => simp at hj; subst hj; exact k2
    · intro j hj
      match j, hj with
      | 0, _ => exact Option.isSome_iff_exists.2 ⟨_, bs.c2⟩
      | 1, _ => exact Option.isSome_iff_exists.2 ⟨_, bs.c3⟩
      | 2, _ => exact Option.isSome_iff_exists.2 ⟨_, bs.c4⟩
    · exact fun j _ => bs.fz _
    · intro v hv
      simp at hv
      rcases hv with rfl | rfl | rfl <;> rfl
  have HM : Hid (EntsAt w am nm cm M) := hM
  have HS : Hid (IntsIn lo w ak nk ck S) := hS
  have H0 : Hid (RunsIn lo w a0 n0 c0 A) := h0
  have H1 : Hid (RunsIn lo w a1 n1 c1 B) := h1
  have H2 : Hid (RunsIn lo w a2 n2 c2 C) := h2
  have KW : Hid (Below w.heap.size w W) := kW
  have HX : Hid (X = w.heap.size) := hX
  clear hM hS h0 h1 h2 kW l0 l1 l2 k0 k1 k2 xa
  go_enter Tryz.func53, Tryz.ntmps53
  go_upto_region 4 with fail
  rw [← hX, ← hW]
  clear hX hW
  have zX : X < W.heap.size := World.block_lt_of_cell? _ _ x2
  have zS := bs.lt
  go_region_with (fail)
  obtain ⟨W2, hW2⟩ : ∃ W2, W2 = W.drew.setCells (X + 1 + 1) 2 [.slice a0 n0 c0, .slice a1 n1 c1, .slice a2 n2 c2] := ⟨_, rfl⟩
  have hW2' : W2 = ((W.drew.setCell ⟨X + 1 + 1, 2, none⟩ (.slice a0 n0 c0)).setCell ⟨X + 1 + 1, 3, none⟩ (.slice a1 n1 c1)).setCell ⟨X + 1 + 1, 4, none⟩ (.slice a2 n2 c2) := by rw [hW2]; rfl
  have bs2 : Box6 W2 (X + 1 + 1) (.int .i64 sq) (.slice am nm cm) (.slice a0 n0 c0) (.slice a1 n1 c1) (.slice a2 n2 c2) (.slice ak nk ck) := by
    have d : Box6 W.drew (X + 1 + 1) (.int .i64 sq) (.slice am nm cm) (.slice none 0 0) (.slice none 0 0) (.slice none 0 0) (.slice ak nk ck) := ⟨bs.c0, bs.c1, bs.c2, bs.c3, bs.c4, bs.c5, bs.fz⟩
    rw [hW2']
    exact ((d.set2 _).set3 _).set4 _
  have br2 : Box6 W2 (X + 1) (.int .i64 0) (.slice none 0 0) (.slice none 0 0) (.slice none 0 0) (.slice none 0 0) (.slice none 0 0) := by
    have d : Box6 W.drew (X + 1) (.int .i64 0) (.slice none 0 0) (.slice none 0 0) (.slice none 0 0) (.slice none 0 0) (.slice none 0 0) := ⟨br.c0, br.c1, br.c2, br.c3, br.c4, br.c5, br.fz⟩
    rw [hW2']
    exact ((d.other (by omega) _).other (by omega) _).other (by omega) _
  have K2 : Hid (Below w.heap.size w W2) := by
    have hx : w.heap.size ≤ X + 1 + 1 := by have := HX.out; omega
    rw [hW2']
    exact ((KW.out.drew.setCell (p := ⟨X + 1 + 1, 2, none⟩) hx _).setCell (p := ⟨X + 1 + 1, 3, none⟩) hx _).setCell (p := ⟨X + 1 + 1, 4, none⟩) hx _
  rw [← hW2]
  clear hW2 hW2' hcp x2 bs br zS zX KW hbw
  have HBR : Hid (Box6 W2 (X + 1) (.int .i64 0) (.slice none 0 0) (.slice none 0 0) (.slice none 0 0) (.slice none 0 0) (.slice none 0 0)) := br2
  have y0 := bs2.c0
  have y1 := bs2.c1
  have y2 := bs2.c2
  have y3 := bs2.c3
  have y4 := bs2.c4
  have y5 := bs2.c5
  have zS := bs2.lt
  have HBS : Hid (Box6 W2 (X + 1 + 1) (.int .i64 sq) (.slice am nm cm) (.slice a0 n0 c0) (.slice a1 n1 c1) (.slice a2 n2 c2) (.slice ak nk ck)) := bs2
  clear br2 bs2
  go_upto_region 5 with fail
  go_region_with (go_at_call 88; refine (implIsOk lo sq am ak nm cm nk ck a0 a1 a2 n0 c0 n1 c1 n2 c2 M A B C S _ (HM.out.keep K2.out.drew) (HS.out.keep K2.out.drew) (H0.out.keep K2.out.drew) (H1.out.keep K2.out.drew) (H2.out.keep K2.out.drew)).mono ?_; rintro e w5 ⟨rfl, hb5⟩; have k5 : Below W2.heap.size W2 w5 := ((Below.refl _ W2).drew).trans hb5; have y0' := cell_later k5 y0; have y1' := cell_later k5 y1; have y2' := cell_later k5 y2; have y3' := cell_later k5 y3; have y4' := cell_later k5 y4; have y5' := cell_later k5 y5; have zS' := Nat.lt_of_lt_of_le zS k5.size; have r0 := (HBR.out.keep k5).c0; have r1 := (HBR.out.keep k5).c1; have r2 := (HBR.out.keep k5).c2; have r3 := (HBR.out.keep k5).c3; have r4 := (HBR.out.keep k5).c4; have r5 := (HBR.out.keep k5).c5; have rf := (HBR.out.keep k5).fz; have rz := (HBR.out.keep k5).lt)
  all_goals
    go_wp2
    refine bodyPost_ret (v := .tuple #[.agg #[.int .i64 sq, .slice am nm cm, .slice a0 n0 c0, .slice a1 n1 c1, .slice a2 n2 c2, .slice ak nk ck], .bool (treeB sq M [A, B, C] S)]) ?_ rfl ⟨rfl, ?_⟩
    · have c := ((((((HBR.out.keep k5).set0 (.int .i64 sq)).set1 (.slice am nm cm)).set2 (.slice a0 n0 c0)).set3 (.slice a1 n1 c1)).set4 (.slice a2 n2 c2)).set5 (.slice ak nk ck)
      simp [results, Tryz.results53, go_sem, c.c0, c.c1, c.c2, c.c3, c.c4, c.c5]
    · have hx : w.heap.size ≤ X + 1 := by have := HX.out; omega
      have K5 := K2.out.trans (k5.mono K2.out.size)
      exact (((((K5.setCell (p := ⟨X + 1, 0, none⟩) hx _).setCell (p := ⟨X + 1, 1, none⟩) hx _).setCell (p := ⟨X + 1, 2, none⟩) hx _).setCell (p := ⟨X + 1, 3, none⟩) hx _).setCell (p := ⟨X + 1, 4, none⟩) hx _).setCell (p := ⟨X + 1, 5, none⟩) hx _
theorem implShareNo (sq : Int) (am av ak : Option Addr) (nm cm nv cv nk ck : Nat) (w : World) (hn : ¬ nv = 3) :
    Calls Tryz.prog 53 #[.agg #[.int .i64 sq, .slice am nm cm, .slice av nv cv, .slice ak nk ck]] w fun e w' => e = .returned (.tuple #[.agg #[.int .i64 0, .slice none 0 0, .slice none 0 0, .slice none 0 0, .slice none 0 0, .slice none 0 0], .bool false]) ∧ Below w.heap.size w w' := by
  have hnI : ¬ (nv : Int) = 3 := by omega
  have hnb : ((nv : Int) == 3) = false := by simpa using hnI
  obtain ⟨W, hW⟩ : ∃ W, W = (w.alloc (.cells #[.int .i64 sq, .slice am nm cm, .slice av nv cv, .slice ak nk ck] 31)).alloc (.cells #[.int .i64 0, .slice none 0 0, .slice none 0 0, .slice none 0 0, .slice none 0 0, .slice none 0 0] 67) := ⟨_, rfl⟩
  have kW : Below w.heap.size w W := by rw [hW]; exact ((Below.refl _ _).alloc (Nat.le_refl _) _).alloc (by simp) _
  have br : Box6 W (w.heap.size + 1) (.int .i64 0) (.slice none 0 0) (.slice none 0 0) (.slice none 0 0) (.slice none 0 0) (.slice none 0 0) := by
    have := Box6.new (w.alloc (.cells #[.int .i64 sq, .slice am nm cm, .slice av nv cv, .slice ak nk ck] 31)) 67 (.int .i64 0) (.slice none 0 0) (.slice none 0 0) (.slice none 0 0) (.slice none 0 0) (.slice none 0 0)
    rw [World.size_alloc] at this
    rw [hW]
    exact this
  go_enter Tryz.func53, Tryz.ntmps53
  go_upto_region 2 with fail
  rw [← hW]
  clear hW
  have r0 := br.c0
  have r1 := br.c1
  have r2 := br.c2
  have r3 := br.c3
  have r4 := br.c4
  have r5 := br.c5
  have rf := br.fz
  have rz := br.lt
  go_wp2
  refine bodyPost_ret (v := .tuple #[.agg #[.int .i64 0, .slice none 0 0, .slice none 0 0, .slice none 0 0, .slice none 0 0, .slice none 0 0], .bool false]) ?_ rfl ⟨rfl, ?_⟩
  · have c := (((((br.set0 (.int .i64 0)).set1 (.slice none 0 0)).set2 (.slice none 0 0)).set3 (.slice none 0 0)).set4 (.slice none 0 0)).set5 (.slice none 0 0)
    simp [results, Tryz.results53, go_sem, c.c0, c.c1, c.c2, c.c3, c.c4, c.c5]
  · have hx : w.heap.size ≤ w.heap.size + 1 := by omega
    exact (((((kW.setCell (p := ⟨w.heap.size + 1, 0, none⟩) hx _).setCell (p := ⟨w.heap.size + 1, 1, none⟩) hx _).setCell (p := ⟨w.heap.size + 1, 2, none⟩) hx _).setCell (p := ⟨w.heap.size + 1, 3, none⟩) hx _).setCell (p := ⟨w.heap.size + 1, 4, none⟩) hx _).setCell (p := ⟨w.heap.size + 1, 5, none⟩) hx _
end Go.Proofs.YtlmgojlffgkciaaGreat

namespace Go.Proofs.YtlmgojlffgkciaaGreat
open Go.RowKit
theorem grown_trans {a b c : World} {R : Option Nat} (h : a.grownBy b R) (k : b.grownBy c R) : a.grownBy c R :=
  ⟨k.os.trans h.os, k.tape.trans h.tape, k.output.trans h.output, Nat.le_trans h.size k.size, fun i hi hn => (k.block i (Nat.lt_of_lt_of_le hi h.size) hn).trans (h.block i hi hn)⟩
end Go.Proofs.YtlmgojlffgkciaaGreat

namespace Go.Proofs.YtlmgojlffgkciaaGreat
open Go.RowKit
theorem row_form {w : World} {base e size k : Nat} {v : Value} {xs : List Value} (h : w.ownsRow base e size v k xs) (hne : ¬ v = .slice none 0 0) : ∃ g cap, v = .slice (some ⟨g, 0, none⟩) k cap := by
  rcases h.2 with ⟨h', _⟩ | ⟨g, cap, _, h', _⟩
  · exact absurd h' hne
  · exact ⟨g, cap, h'⟩
theorem step_append_own {P : Program} {ops : Array Oper} {o : Oper} {a : Act} {w : World} {K : Act → World → Prop} {Q : Exit → Act → World → Prop} {E : Prop}
    (hg : o.guard = none) (s x : Operand) (t : TypeId) (hop : o.op = Op.call { callee := Callee.builtin Builtin.append, args := #[s, x], argTypes := #[t, t] })
    (base : Nat) (e : TypeId) (i : TypeInfo) (z : Value) (size bytes : Nat) (h1 : P.underlying t = some (.slice e)) (h2 : P.info? e = some i) (h3 : i.zero = some z) (h4 : i.size = size) (h5 : i.bytes = bytes) (h6 : z.cells.size = size) (h7 : 0 < size)
    (v : Value) (n : Nat) (olds : List Value) (hs : a.eval s = v) (hown : w.ownsRow base e size v n olds)
    (ad : Addr) (m c : Nat) (news : List Value) (hx : a.eval x = .slice (some ad) m c) (hn : news.length = m * size) (hc : ∀ j u, news[j]? = some u → w.cell? (ad.add j) = some u) (h1c : ∀ u ∈ news, u.oneCell' = true)
    (b1 : n + m ≤ maxLen) (b2 : (n + m) * bytes ≤ 140737488355328) (b3 : base ≤ w.heap.size)
    (hK : ∀ v' w', w'.ownsRow base e size v' (n + m) (olds ++ news) → w.grownBy w' v.ownBlock → (v' = .slice none 0 0 ↔ v = .slice none 0 0 ∧ m = 0) → K (a.put o.dst v') w') :
    if Region.wanted o (yielded ops a.tmps) = true then Oper.wp P o a w K Q else E := by
  have hw : Region.wanted o (yielded ops a.tmps) = true := by simp [Region.wanted, hg]
  rw [if_pos hw]
  obtain ⟨v', w', hrun, r1, r2, r3⟩ := run_append_own (P := P) w base t o.type e i z size bytes h1 h2 h3 h4 h5 h6 h7 v n olds hown ad m c news hn hc h1c b1 b2 b3
  unfold Oper.wp
  simp [execOp, hop, resolve, invoke, builtin, hs, hx, hrun, Result.andThen]
  exact hK v' w' r1 r2 r3
end Go.Proofs.YtlmgojlffgkciaaGreat
