/-
  The program's turned at any function that does something to a tree: what it answers at a right tree, by a walk of its Go text.
  The rows of the levels of a copy are there, each in a block.
  A right tree's lists as the program shares them, each level's row in a block.
-/
import Derived.Test.YtlmgojlffgkciaaGreatCb44
import Derived.Test.YtlmgojlffgkciaaGreatCb19
namespace Go.Proofs.YtlmgojlffgkciaaGreat
open Go.RowKit

theorem TreeO.lowO {lo lo' hi b1 nm b2 nv b3 ns : Nat} {w : World} {M : List EntD} {V : List (List RunD)} {S : List Int} {gs bs : Nat → Nat} {es : Nat → Nat → Nat} (h : TreeO lo hi w b1 nm b2 nv b3 ns M V S gs bs es) (hl : lo' ≤ lo) : TreeO lo' hi w b1 nm b2 nv b3 ns M V S gs bs es := by
  obtain ⟨xs, h1, h2⟩ := h.levs.row
  exact ⟨h.mem.mono hl, ⟨h.levs.len, ⟨xs, row_lower h1 hl, h2⟩, h.levs.levs, ⟨Nat.le_trans hl h.levs.bot.1, h.levs.bot.2⟩, h.levs.up, h.levs.top⟩, ⟨h.sn.1, row_lower h.sn.2 hl⟩, h.ahead⟩
theorem TreeO.highO {lo hi hi' b1 nm b2 nv b3 ns : Nat} {w : World} {M : List EntD} {V : List (List RunD)} {S : List Int} {gs bs : Nat → Nat} {es : Nat → Nat → Nat} (h : TreeO lo hi w b1 nm b2 nv b3 ns M V S gs bs es) (hl : hi ≤ hi') : TreeO lo hi' w b1 nm b2 nv b3 ns M V S gs bs es :=
  ⟨h.mem, ⟨h.levs.len, h.levs.row, h.levs.levs, h.levs.bot, h.levs.up, Nat.le_trans h.levs.top hl⟩, h.sn, h.ahead⟩
theorem setK (w : World) (g o : Nat) (u : Value) : KeepO g (g + 1) w (w.setCell ⟨g, o, none⟩ u) := ⟨rfl, rfl, rfl, by simp [World.setCell], fun q _ hq => Below.heap_setCell _ _ _ _ (fun e => by have e' : q = g := e; omega)⟩
theorem treeO_four {lo lo' hi hi' b1 nm b2 nv b3 ns X : Nat} {w : World} {M : List EntD} {V : List (List RunD)} {S : List Int} {gs bs : Nat → Nat} {es : Nat → Nat → Nat} (h : TreeO lo hi w b1 nm b2 nv b3 ns M V S gs bs es) (hX : X < lo) (hl : lo' ≤ lo) (hh : hi ≤ hi') (u0 u1 u2 u3 : Value) : TreeO lo' hi' ((((w.setCell ⟨X, 0, none⟩ u0).setCell ⟨X, 1, none⟩ u1).setCell ⟨X, 2, none⟩ u2).setCell ⟨X, 3, none⟩ u3) b1 nm b2 nv b3 ns M V S gs bs es :=
  ((h.keepO ((((setK _ _ _ _).trans (setK _ _ _ _)).trans (setK _ _ _ _)).trans (setK _ _ _ _)) hX).lowO hl).highO hh
/-- A tree inside the program, its lists shared. -/
structure ShIn (w : World) (am : Option Addr) (nm cm : Nat) (a0 : Option Addr) (n0 c0 : Nat) (a1 : Option Addr) (n1 c1 : Nat) (a2 : Option Addr) (n2 c2 : Nat) (ak : Option Addr) (nk ck : Nat) (M : List EntD) (A B C : List RunD) (S : List Int) : Prop where
  mem : EntsAt w am nm cm M
  r0 : RunsIn 0 w a0 n0 c0 A
  r1 : RunsIn 0 w a1 n1 c1 B
  r2 : RunsIn 0 w a2 n2 c2 C
  sn : IntsIn 0 w ak nk ck S
theorem ShIn.keep {w w' : World} {am a0 a1 a2 ak : Option Addr} {nm cm n0 c0 n1 c1 n2 c2 nk ck : Nat} {M : List EntD} {A B C : List RunD} {S : List Int} (h : ShIn w am nm cm a0 n0 c0 a1 n1 c1 a2 n2 c2 ak nk ck M A B C S) (hb : Below w.heap.size w w') : ShIn w' am nm cm a0 n0 c0 a1 n1 c1 a2 n2 c2 ak nk ck M A B C S := ⟨h.mem.keep hb, h.r0.keep hb, h.r1.keep hb, h.r2.keep hb, h.sn.keep hb⟩
/-- A right tree's lists, as shareTree shares them. -/
theorem TreeIn.share {lo : Nat} {w : World} {sq : Int} {am av ak : Option Addr} {nm cm nv cv nk ck : Nat} {M : List EntD} {V : List (List RunD)} {S : List Int} (hT : TreeIn lo w am nm cm av nv cv ak nk ck M V S) (htb : treeB sq M V S = true) : ∃ b off A B C a0 n0 c0 a1 n1 c1 a2 n2 c2, av = some ⟨b, off, none⟩ ∧ nv = 3 ∧ V = [A, B, C] ∧ ShIn w am nm cm a0 n0 c0 a1 n1 c1 a2 n2 c2 ak nk ck M A B C S ∧ (∀ w', Below w.heap.size w w' → Calls Tryz.prog 53 #[.agg #[.int .i64 sq, .slice am nm cm, .slice (some ⟨b, off, none⟩) 3 cv, .slice ak nk ck]] w' fun e w'' => e = .returned (.tuple #[.agg #[.int .i64 sq, .slice am nm cm, .slice a0 n0 c0, .slice a1 n1 c1, .slice a2 n2 c2, .slice ak nk ck], .bool true]) ∧ Below w'.heap.size w' w'') := by
  obtain ⟨A, B, C, hV3⟩ := three_of htb
  subst hV3
  have hnv : nv = 3 := hT.levels.length.symm
  subst hnv
  obtain ⟨b, off, rfl, hbb⟩ := hT.levels.form (by omega)
  obtain ⟨A', a0, n0, c0, hA, l0, hR0⟩ := hT.levels.level (Below.refl _ w) 0 (by omega)
  obtain ⟨B', a1, n1, c1, hB, l1, hR1⟩ := hT.levels.level (Below.refl _ w) 1 (by omega)
  obtain ⟨C', a2, n2, c2, hC, l2, hR2⟩ := hT.levels.level (Below.refl _ w) 2 (by omega)
  simp only [List.getElem?_cons_zero, List.getElem?_cons_succ, Option.some.injEq] at hA hB hC
  subst hA hB hC
  rw [Nat.add_zero] at l0
  refine ⟨b, off, A, B, C, a0, n0, c0, a1, n1, c1, a2, n2, c2, rfl, rfl, rfl, ⟨hT.mem.1, hR0.mono (Nat.zero_le _), hR1.mono (Nat.zero_le _), hR2.mono (Nat.zero_le _), hT.snaps.lower (Nat.zero_le _)⟩, fun w' k => ?_⟩
  have := implShare lo sq am ak nm cm b off cv nk ck M A B C S a0 a1 a2 n0 c0 n1 c1 n2 c2 w' (hT.mem.1.keep k) (hT.snaps.keep k) (hR0.keep k) (hR1.keep k) (hR2.keep k) (cell_later k l0) (cell_later k l1) (cell_later k l2)
  rw [htb] at this
  exact this
/-- Sizes within which a tree can be copied out. -/
structure OutOk (M : List EntD) (A B C : List RunD) (S : List Int) : Prop where
  bm : M.length ≤ 1048576
  bk : S.length ≤ 1048576
  em : SmallE M
  b0 : SmallR A
  b1 : SmallR B
  b2 : SmallR C
  e0 : SmallRE A
  e1 : SmallRE B
  e2 : SmallRE C
theorem outOk_sum {M : List EntD} {A B C : List RunD} {S : List Int} (h : SumOk M [A, B, C] S) : OutOk M A B C S := by
  have hs := small_of_sum h.1
  exact ⟨hs.1, hs.2.2, h.2.1, hs.2.1.2 A (by simp), hs.2.1.2 B (by simp), hs.2.1.2 C (by simp), h.2.2 A (by simp), h.2.2 B (by simp), h.2.2 C (by simp)⟩
theorem asTree_g (q : Int) (am ak : Option Addr) (nm cm nk ck : Nat) (a0 a1 a2 : Option Addr) (n0 c0 n1 c1 n2 c2 : Nat) (M : List EntD) (A B C : List RunD) (S : List Int) (w : World) (h : ShIn w am nm cm a0 n0 c0 a1 n1 c1 a2 n2 c2 ak nk ck M A B C S) (ho : OutOk M A B C S) :
    Calls Tryz.prog 79 #[.agg #[.int .i64 q, .slice am nm cm, .slice a0 n0 c0, .slice a1 n1 c1, .slice a2 n2 c2, .slice ak nk ck]] w (AsRO q nm nk M [A, B, C] S w) :=
  asTree_o 0 q am ak nm cm nk ck a0 a1 a2 n0 c0 n1 c1 n2 c2 M A B C S w h.mem h.sn h.r0 h.r1 h.r2 (by have := h.mem.length; have := ho.bm; omega) (by have := h.sn.length; have := ho.bk; omega) ho.em ho.b0 ho.b1 ho.b2 ho.e0 ho.e1 ho.e2
/-- What a function that does something to a tree answers, where it is done. -/
def HowY (q2 : Int) (M2 : List EntD) (A2 B2 C2 : List RunD) (S2 : List Int) (w : World) (e : Ending) (w' : World) : Prop :=
  ∃ am2 nm2 cm2 a02 n02 c02 a12 n12 c12 a22 n22 c22 ak2 nk2 ck2, e = .returned (.tuple #[.agg #[.int .i64 q2, .slice am2 nm2 cm2, .slice a02 n02 c02, .slice a12 n12 c12, .slice a22 n22 c22, .slice ak2 nk2 ck2], .bool true]) ∧ ShIn w' am2 nm2 cm2 a02 n02 c02 a12 n12 c12 a22 n22 c22 ak2 nk2 ck2 M2 A2 B2 C2 S2 ∧ Below w.heap.size w w'
/-- What it answers, where it is refused. -/
def HowN (w : World) (e : Ending) (w' : World) : Prop :=
  ∃ q2 am2 nm2 cm2 a02 n02 c02 a12 n12 c12 a22 n22 c22 ak2 nk2 ck2, e = .returned (.tuple #[.agg #[.int .i64 q2, .slice am2 nm2 cm2, .slice a02 n02 c02, .slice a12 n12 c12, .slice a22 n22 c22, .slice ak2 nk2 ck2], .bool false]) ∧ Below w.heap.size w w'

/-- The tree of nothing, and false. -/
def NoneR (w : World) (e : Ending) (w' : World) : Prop := e = .returned (.tuple #[.agg #[.int .i64 0, .slice none 0 0, .slice none 0 0, .slice none 0 0], .bool false]) ∧ Below w.heap.size w w'
theorem impR_none {w w' : World} {e : Ending} (h : NoneR w e w') : ImpR 0 [] [] [] false w e w' := ⟨none, 0, none, 0, none, 0, fun _ => 0, fun _ => 0, fun _ _ => 0, h.1, .inr ⟨rfl, rfl, rfl, rfl, rfl, rfl, rfl, rfl, rfl⟩, h.2⟩
theorem docR_none {w w' : World} {e : Ending} (h : NoneR w e w') : DocR 0 [] [] [] false w e w' := ⟨none, 0, 0, none, 0, 0, none, 0, 0, h.1, treeIn_nil 0 w', h.2⟩

set_option maxRecDepth 100000 in
set_option maxHeartbeats 4000000 in
theorem turnedNo (lo : Nat) (sq : Int) (fv : Value) (am av ak : Option Addr) (nm cm nv cv nk ck : Nat) (M : List EntD) (V : List (List RunD)) (S : List Int) (w : World) (hT : TreeIn lo w am nm cm av nv cv ak nk ck M V S) (htb : treeB sq M V S = false) :
    Calls Tryz.prog 42 #[.agg #[.int .i64 sq, .slice am nm cm, .slice av nv cv, .slice ak nk ck], fv] w (NoneR w) := by
  have HVN : Hid (V.length = nv) := hT.levels.length
  have CS : Hid (∀ w', Below w.heap.size w w' → Calls Tryz.prog 53 #[.agg #[.int .i64 sq, .slice am nm cm, .slice av nv cv, .slice ak nk ck]] w' fun e w'' => (∃ (q' : Int) (m' x0 x1 x2 k' : Value), e = .returned (.tuple #[.agg #[.int .i64 q', m', x0, x1, x2, k'], .bool false]) ∧ (∃ a n c, m' = .slice a n c) ∧ (∃ a n c, x0 = .slice a n c) ∧ (∃ a n c, x1 = .slice a n c) ∧ (∃ a n c, x2 = .slice a n c) ∧ (∃ a n c, k' = .slice a n c)) ∧ Below w'.heap.size w' w'') := fun w' k => by
    by_cases hn : nv = 3
    · subst hn
      obtain ⟨A, B, C, hV3⟩ : ∃ A B C, V = [A, B, C] := by
        have := HVN.out
        match V, this with
        | [A, B, C], _ => exact ⟨A, B, C, rfl⟩
      subst hV3
      obtain ⟨b, off, rfl, hbb⟩ := hT.levels.form (by omega)
      obtain ⟨A', a0, n0, c0, hA, l0, hR0⟩ := hT.levels.level (Below.refl _ w) 0 (by omega)
      obtain ⟨B', a1, n1, c1, hB, l1, hR1⟩ := hT.levels.level (Below.refl _ w) 1 (by omega)
      obtain ⟨C', a2, n2, c2, hC, l2, hR2⟩ := hT.levels.level (Below.refl _ w) 2 (by omega)
      simp only [List.getElem?_cons_zero, List.getElem?_cons_succ, Option.some.injEq] at hA hB hC
      subst hA hB hC
      rw [Nat.add_zero] at l0
      have := implShare lo sq am ak nm cm b off cv nk ck M A B C S a0 a1 a2 n0 c0 n1 c1 n2 c2 w' (hT.mem.1.keep k) (hT.snaps.keep k) (hR0.keep k) (hR1.keep k) (hR2.keep k) (cell_later k l0) (cell_later k l1) (cell_later k l2)
      rw [htb] at this
      refine this.mono ?_
      rintro e w'' ⟨rfl, hb⟩
      exact ⟨⟨_, _, _, _, _, _, rfl, ⟨_, _, _, rfl⟩, ⟨_, _, _, rfl⟩, ⟨_, _, _, rfl⟩, ⟨_, _, _, rfl⟩, ⟨_, _, _, rfl⟩⟩, hb⟩
    · refine (implShareNo sq am av ak nm cm nv cv nk ck w' hn).mono ?_
      rintro e w'' ⟨rfl, hb⟩
      exact ⟨⟨_, _, _, _, _, _, rfl, ⟨_, _, _, rfl⟩, ⟨_, _, _, rfl⟩, ⟨_, _, _, rfl⟩, ⟨_, _, _, rfl⟩, ⟨_, _, _, rfl⟩⟩, hb⟩
  obtain ⟨X, hX⟩ : ∃ X, X = w.heap.size := ⟨_, rfl⟩
  obtain ⟨W, hW⟩ : ∃ W, W = (w.alloc (.cells #[.int .i64 sq, .slice am nm cm, .slice av nv cv, .slice ak nk ck] 31)).alloc (.cells #[.int .i64 0, .slice none 0 0, .slice none 0 0, .slice none 0 0] 31) := ⟨_, rfl⟩
  have kW : Below w.heap.size w W := by rw [hW]; exact ((Below.refl _ _).alloc (Nat.le_refl _) _).alloc (by simp) _
  have br : Box4 W (X + 1) (.int .i64 0) (.slice none 0 0) (.slice none 0 0) (.slice none 0 0) := by
    have := Box4.new (w.alloc (.cells #[.int .i64 sq, .slice am nm cm, .slice av nv cv, .slice ak nk ck] 31)) 31 (.int .i64 0) (.slice none 0 0) (.slice none 0 0) (.slice none 0 0)
    rw [World.size_alloc] at this
    rw [hW, hX]
    exact this
  have HX : Hid (X = w.heap.size) := hX
  have K0 : Hid (Below w.heap.size w W) := kW
  clear hT kW htb HVN
  go_enter Tryz.func42, Tryz.ntmps42
  go_wp2_with fail
  rw [← hX, ← hW]
  clear hX hW
  refine (CS.out _ K0.out).mono ?_
  rintro e w1 ⟨⟨q', _, _, _, _, _, rfl, ⟨m1, m2, m3, rfl⟩, ⟨y1, y2, y3, rfl⟩, ⟨z1, z2, z3, rfl⟩, ⟨u1, u2, u3, rfl⟩, ⟨v1, v2, v3, rfl⟩⟩, hb1⟩
  obtain ⟨w2, hw2⟩ : ∃ w2, w2 = w1.alloc (.cells #[.int .i64 q', .slice m1 m2 m3, .slice y1 y2 y3, .slice z1 z2 z3, .slice u1 u2 u3, .slice v1 v2 v3] 67) := ⟨_, rfl⟩
  have k2 : Below w1.heap.size w1 w2 := by rw [hw2]; exact (Below.refl _ _).alloc (Nat.le_refl _) _
  have K1 : Hid (Below w.heap.size w w2) := (K0.out.trans (hb1.mono K0.out.size)).trans (k2.mono (Nat.le_trans K0.out.size hb1.size))
  have br1 := (br.keep hb1).keep k2
  have r0 := br1.c0
  have r1 := br1.c1
  have r2 := br1.c2
  have r3 := br1.c3
  have rf := br1.fz
  have rz := br1.lt
  clear hb1 br k2
  go_upto_region 2 with fail
  rw [← hw2]
  clear hw2
  go_wp2
  refine bodyPost_ret (v := .tuple #[.agg #[.int .i64 0, .slice none 0 0, .slice none 0 0, .slice none 0 0], .bool false]) ?_ rfl ⟨rfl, ?_⟩
  · have e := (((br1.set0 (.int .i64 0)).set1 (.slice none 0 0)).set2 (.slice none 0 0)).set3 (.slice none 0 0)
    simp [results, Tryz.results42, go_sem, e.c0, e.c1, e.c2, e.c3]
  · have hx : w.heap.size ≤ X + 1 := by have := HX.out; omega
    exact (((K1.out.setCell (p := ⟨X + 1, 0, none⟩) hx _).setCell (p := ⟨X + 1, 1, none⟩) hx _).setCell (p := ⟨X + 1, 2, none⟩) hx _).setCell (p := ⟨X + 1, 3, none⟩) hx _
end Go.Proofs.YtlmgojlffgkciaaGreat

namespace Go.Proofs.YtlmgojlffgkciaaGreat
open Go.RowKit

/-- Each level's row lies in a block. -/
def LevNN (w : World) (b : Nat) (V : List (List RunD)) : Prop := ∀ (i : Nat) (B : List RunD), V[i]? = some B → ∃ e n c, w.cell? ⟨b, i, none⟩ = some (.slice (some ⟨e, 0, none⟩) n c)
theorem LevNN.keep {w w' : World} {b : Nat} {V : List (List RunD)} (h : LevNN w b V) (hb : Below w.heap.size w w') : LevNN w' b V := fun i B hB => by
  obtain ⟨e, n, c, h1⟩ := h i B hB
  exact ⟨e, n, c, cell_later hb h1⟩
theorem TreeBl.levNN {lo hi b1 nm b2 b3 ns : Nat} {w : World} {V : List (List RunD)} (h : TreeBl lo hi w b1 nm b2 V b3 ns) : LevNN w b2 V := fun i B hB => by
  obtain ⟨e, h1, _⟩ := h.levs.levs i B hB
  exact ⟨e, _, _, h1⟩
end Go.Proofs.YtlmgojlffgkciaaGreat

namespace Go.Proofs.YtlmgojlffgkciaaGreat
open Go.RowKit

/-- A right tree's lists, as shareTree shares them, each level's row in a block. -/
theorem TreeIn.shareN {lo : Nat} {w : World} {sq : Int} {am ak : Option Addr} {nm cm b nv cv nk ck : Nat} {M : List EntD} {V : List (List RunD)} {S : List Int} (hT : TreeIn lo w am nm cm (some ⟨b, 0, none⟩) nv cv ak nk ck M V S) (htb : treeB sq M V S = true) (hN : LevNN w b V) : ∃ A B C e0 n0 c0 e1 n1 c1 e2 n2 c2, nv = 3 ∧ V = [A, B, C] ∧ ShIn w am nm cm (some ⟨e0, 0, none⟩) n0 c0 (some ⟨e1, 0, none⟩) n1 c1 (some ⟨e2, 0, none⟩) n2 c2 ak nk ck M A B C S ∧ (∀ w', Below w.heap.size w w' → Calls Tryz.prog 53 #[.agg #[.int .i64 sq, .slice am nm cm, .slice (some ⟨b, 0, none⟩) 3 cv, .slice ak nk ck]] w' fun e w'' => e = .returned (.tuple #[.agg #[.int .i64 sq, .slice am nm cm, .slice (some ⟨e0, 0, none⟩) n0 c0, .slice (some ⟨e1, 0, none⟩) n1 c1, .slice (some ⟨e2, 0, none⟩) n2 c2, .slice ak nk ck], .bool true]) ∧ Below w'.heap.size w' w'') := by
  obtain ⟨A, B, C, hV3⟩ := three_of htb
  subst hV3
  have hnv : nv = 3 := hT.levels.length.symm
  subst hnv
  obtain ⟨A', a0, n0, c0, hA, l0, hR0⟩ := hT.levels.level (Below.refl _ w) 0 (by omega)
  obtain ⟨B', a1, n1, c1, hB, l1, hR1⟩ := hT.levels.level (Below.refl _ w) 1 (by omega)
  obtain ⟨C', a2, n2, c2, hC, l2, hR2⟩ := hT.levels.level (Below.refl _ w) 2 (by omega)
  simp only [List.getElem?_cons_zero, List.getElem?_cons_succ, Option.some.injEq] at hA hB hC
  subst hA hB hC
  rw [Nat.zero_add] at l0 l1 l2
  obtain ⟨e0, _, _, f0⟩ := hN 0 A rfl
  obtain ⟨e1, _, _, f1⟩ := hN 1 B rfl
  obtain ⟨e2, _, _, f2⟩ := hN 2 C rfl
  rw [l0] at f0
  rw [l1] at f1
  rw [l2] at f2
  cases f0
  cases f1
  cases f2
  refine ⟨A, B, C, e0, n0, c0, e1, n1, c1, e2, n2, c2, rfl, rfl, ⟨hT.mem.1, hR0.mono (Nat.zero_le _), hR1.mono (Nat.zero_le _), hR2.mono (Nat.zero_le _), hT.snaps.lower (Nat.zero_le _)⟩, fun w' k => ?_⟩
  have := implShare lo sq am ak nm cm b 0 cv nk ck M A B C S _ _ _ n0 c0 n1 c1 n2 c2 w' (hT.mem.1.keep k) (hT.snaps.keep k) (hR0.keep k) (hR1.keep k) (hR2.keep k) (cell_later k l0) (cell_later k l1) (cell_later k l2)
  rw [htb] at this
  exact this
end Go.Proofs.YtlmgojlffgkciaaGreat
