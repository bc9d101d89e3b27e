/-
  A tree that was answered: in memory of a call's own, or the tree of nothing; the laws' marks on it, and the marks found again; by walks of their Go text.
  Plain: the run that entries make; no function of the program is walked here.
  Plain: entries of unlike keys or times; no statement of the program stands here.
  Plain: what all entries of a tree are, sorted; no statement of the program stands here.
-/
import Derived.Test.YtlmgojlffgkciaaGreatCb36
import Derived.Test.YtlmgojlffgkciaaGreatCb41
import Derived.Test.YtlmgojlffgkciaaGreatCb43
import Derived.Test.YtlmgojlffgkciaaGreatCb18
import Derived.Test.YtlmgojlffgkciaaGreatCb22
import Derived.Test.YtlmgojlffgkciaaGreatCb33
import Derived.Test.YtlmgojlffgkciaaGreatCb13
namespace Go.Proofs.YtlmgojlffgkciaaGreat
open Go.RowKit

theorem TreeIn.lowR {lo lo' : Nat} {w : World} {am av ak : Option Addr} {nm cm nv cv ns cs : Nat} {M : List EntD} {V : List (List RunD)} {S : List Int} (h : TreeIn lo w am nm cm av nv cv ak ns cs M V S) (hl : lo' ≤ lo) : TreeIn lo' w am nm cm av nv cv ak ns cs M V S := ⟨h.mem.mono hl, h.levels.mono hl, h.snaps.lower hl⟩
theorem KeepO.of_mark {lo hi : Nat} {w w' : World} (h : MarkT lo hi w w') : KeepO lo hi w w' := ⟨h.os, h.tape, h.output, h.size, h.far⟩
theorem LevsO.levelsIn {lo hi G n : Nat} {w : World} {V : List (List RunD)} {gs bs : Nat → Nat} {es : Nat → Nat → Nat} (h : LevsO lo hi w G n V gs bs es) : LevelsIn lo w (some ⟨G, 0, none⟩) n n V := by
  obtain ⟨xs, r1, r2⟩ := h.row
  have hrc := row_rooms r1
  have hl := h.len
  refine ⟨h.len, hrc.1, hrc.2, (fun e => by cases e), ?_, ?_⟩
  · rintro x e _
    cases e
    exact ⟨(r1.lt G rfl).2, rfl, (r1.lt G rfl).1⟩
  · rintro x e i hi
    cases e
    have hp := List.getElem?_eq_getElem hi
    have u := h.up 0 i (by omega) (by omega)
    refine ⟨_, _, _, ?_, (h.levs i _ hp).runsIn.mono (by have := h.bot.1; omega)⟩
    simp only [Nat.zero_add]
    exact (r1.cellAt _ (by omega)).trans (r2 i _ hp)
theorem TreeO.treeIn {lo hi b1 nm b2 nv b3 ns : Nat} {w : World} {M : List EntD} {V : List (List RunD)} {S : List Int} {gs bs : Nat → Nat} {es : Nat → Nat → Nat} (h : TreeO lo hi w b1 nm b2 nv b3 ns M V S gs bs es) (hw : ∀ z ∈ S, (Lit.int .i64 z).wf = true) : TreeIn 0 w (some ⟨b1, 0, none⟩) nm nm (some ⟨b2, 0, none⟩) nv nv (some ⟨b3, 0, none⟩) ns ns M V S := by
  have hrc := row_rooms h.sn.2
  have hl := h.sn.1
  refine ⟨⟨h.mem.entsAt, fun x e _ => Nat.zero_le _⟩, h.levs.levelsIn.mono (Nat.zero_le _), ⟨hl, hrc.1, hrc.2, hw, (fun e => by cases e), ?_, ?_⟩⟩
  · rintro x e _
    cases e
    exact ⟨(h.sn.2.lt b3 rfl).2, rfl, Nat.zero_le _⟩
  · rintro x e i hi
    cases e
    simp only [Nat.zero_add]
    have h1 := h.sn.2.cellAt i (by omega)
    rw [List.getElem?_map, List.getElem?_eq_getElem hi] at h1
    exact h1

/-- A tree that was answered: in memory of a call's own, or the tree of nothing. -/
def ResT (lo hi : Nat) (w : World) (am : Option Addr) (nm : Nat) (av : Option Addr) (nv : Nat) (ak : Option Addr) (ns : Nat) (M : List EntD) (V : List (List RunD)) (S : List Int) (gs bs : Nat → Nat) (es : Nat → Nat → Nat) : Prop :=
  (∃ b1 b2 b3, am = some ⟨b1, 0, none⟩ ∧ av = some ⟨b2, 0, none⟩ ∧ ak = some ⟨b3, 0, none⟩ ∧ TreeO lo hi w b1 nm b2 nv b3 ns M V S gs bs es) ∨ (am = none ∧ av = none ∧ ak = none ∧ nm = 0 ∧ nv = 0 ∧ ns = 0 ∧ M = [] ∧ V = [] ∧ S = [])
theorem ResT.below {lo hi nm nv ns : Nat} {am av ak : Option Addr} {w w' : World} {M : List EntD} {V : List (List RunD)} {S : List Int} {gs bs : Nat → Nat} {es : Nat → Nat → Nat} (h : ResT lo hi w am nm av nv ak ns M V S gs bs es) (hb : Below w.heap.size w w') : ResT lo hi w' am nm av nv ak ns M V S gs bs es := by
  rcases h with ⟨b1, b2, b3, h1, h2, h3, h4⟩ | h
  · exact .inl ⟨b1, b2, b3, h1, h2, h3, h4.below hb⟩
  · exact .inr h
theorem ResT.keepO {lo hi lo' hi' nm nv ns : Nat} {am av ak : Option Addr} {w w' : World} {M : List EntD} {V : List (List RunD)} {S : List Int} {gs bs : Nat → Nat} {es : Nat → Nat → Nat} (h : ResT lo hi w am nm av nv ak ns M V S gs bs es) (k : KeepO lo' hi' w w') (hd : hi' ≤ lo) : ResT lo hi w' am nm av nv ak ns M V S gs bs es := by
  rcases h with ⟨b1, b2, b3, h1, h2, h3, h4⟩ | h
  · exact .inl ⟨b1, b2, b3, h1, h2, h3, h4.keepO k hd⟩
  · exact .inr h
theorem treeIn_nil (lo : Nat) (w : World) : TreeIn lo w none 0 0 none 0 0 none 0 0 [] [] [] :=
  ⟨⟨⟨rfl, Nat.le_refl _, Nat.zero_le _, (fun e he => by cases he), fun _ => rfl, (fun x e => by cases e), (fun x e => by cases e)⟩, fun x e => by cases e⟩, ⟨rfl, Nat.le_refl _, Nat.zero_le _, fun _ => rfl, (fun x e => by cases e), (fun x e => by cases e)⟩, ⟨rfl, Nat.le_refl _, Nat.zero_le _, (fun z hz => by cases hz), fun _ => rfl, (fun x e => by cases e), (fun x e => by cases e)⟩⟩
theorem ResT.treeIn {lo hi nm nv ns : Nat} {am av ak : Option Addr} {w : World} {M : List EntD} {V : List (List RunD)} {S : List Int} {gs bs : Nat → Nat} {es : Nat → Nat → Nat} (h : ResT lo hi w am nm av nv ak ns M V S gs bs es) (hw : ∀ z ∈ S, (Lit.int .i64 z).wf = true) : TreeIn 0 w am nm nm av nv nv ak ns ns M V S := by
  rcases h with ⟨b1, b2, b3, rfl, rfl, rfl, h4⟩ | ⟨rfl, rfl, rfl, rfl, rfl, rfl, rfl, rfl, rfl⟩
  · exact h4.treeIn hw
  · exact treeIn_nil 0 w
theorem ResT.lens {lo hi nm nv ns : Nat} {am av ak : Option Addr} {w : World} {M : List EntD} {V : List (List RunD)} {S : List Int} {gs bs : Nat → Nat} {es : Nat → Nat → Nat} (h : ResT lo hi w am nm av nv ak ns M V S gs bs es) : M.length = nm ∧ V.length = nv ∧ S.length = ns := by
  rcases h with ⟨b1, b2, b3, rfl, rfl, rfl, h4⟩ | ⟨rfl, rfl, rfl, rfl, rfl, rfl, rfl, rfl, rfl⟩
  · exact ⟨h4.mem.len, h4.levs.len, h4.sn.1⟩
  · exact ⟨rfl, rfl, rfl⟩

set_option maxHeartbeats 800000 in
theorem markLevs_nil (k : Nat) (w : World) :
    Calls Tryz.prog 46 #[.slice none 0 0, .int .i64 k] w fun e w' => e = .returned (.int .i64 (k : Int)) ∧ w' = w := by
  go_enter Tryz.func46, Tryz.ntmps46
  go_wp2
  go_loopw [1, 5] (fun kv i wr => kv = .int .i64 (k : Int) ∧ i = .int .i64 0 ∧ wr = w) (fun _ i _ => 0)
  case atStart => exact ⟨rfl, rfl, rfl⟩
  case round =>
    obtain ⟨rfl, rfl, rfl⟩ := hrel
    go_wp2
    go_ret
    exact ⟨rfl, rfl⟩
set_option maxHeartbeats 800000 in
theorem heldLevs_nil (k : Nat) (w : World) :
    Calls Tryz.prog 48 #[.slice none 0 0, .int .i64 k] w fun e w' => e = .returned (.int .i64 (k : Int)) ∧ w' = w := by
  go_enter Tryz.func48, Tryz.ntmps48
  go_wp2
  go_loopw [1, 5] (fun kv i wr => kv = .int .i64 (k : Int) ∧ i = .int .i64 0 ∧ wr = w) (fun _ i _ => 0)
  case atStart => exact ⟨rfl, rfl, rfl⟩
  case round =>
    obtain ⟨rfl, rfl, rfl⟩ := hrel
    go_wp2
    go_ret
    exact ⟨rfl, rfl⟩
set_option maxHeartbeats 800000 in
theorem markInts_nil (k : Nat) (w : World) :
    Calls Tryz.prog 47 #[.slice none 0 0, .int .i64 k] w fun e w' => e = .returned (.int .i64 (k : Int)) ∧ w' = w := by
  go_enter Tryz.func47, Tryz.ntmps47
  go_wp2
  go_loopw [1, 5] (fun kv i wr => kv = .int .i64 (k : Int) ∧ i = .int .i64 0 ∧ wr = w) (fun _ i _ => 0)
  case atStart => exact ⟨rfl, rfl, rfl⟩
  case round =>
    obtain ⟨rfl, rfl, rfl⟩ := hrel
    go_wp2
    go_ret
    exact ⟨rfl, rfl⟩
set_option maxHeartbeats 800000 in
theorem heldInts_nil (k : Nat) (w : World) :
    Calls Tryz.prog 49 #[.slice none 0 0, .int .i64 k] w fun e w' => e = .returned (.int .i64 (k : Int)) ∧ w' = w := by
  go_enter Tryz.func49, Tryz.ntmps49
  go_wp2
  go_loopw [1, 5] (fun kv i wr => kv = .int .i64 (k : Int) ∧ i = .int .i64 0 ∧ wr = w) (fun _ i _ => 0)
  case atStart => exact ⟨rfl, rfl, rfl⟩
  case round =>
    obtain ⟨rfl, rfl, rfl⟩ := hrel
    go_wp2
    go_ret
    exact ⟨rfl, rfl⟩

set_option maxRecDepth 100000 in
set_option maxHeartbeats 2000000 in
theorem markTree_nil (q : Int) (k : Nat) (w : World) :
    Calls Tryz.prog 15 #[.agg #[.int .i64 q, .slice none 0 0, .slice none 0 0, .slice none 0 0], .int .i64 k] w fun e w' => e = .returned (.int .i64 (k : Int)) ∧ Below w.heap.size w w' := by
  obtain ⟨Y, hY⟩ : ∃ Y, Y = w.heap.size := ⟨_, rfl⟩
  obtain ⟨W, hW⟩ : ∃ W, W = w.alloc (.cells #[.int .i64 q, .slice none 0 0, .slice none 0 0, .slice none 0 0] 31) := ⟨_, rfl⟩
  have kW : Below w.heap.size w W := by rw [hW]; exact (Below.refl _ _).alloc (Nat.le_refl _) _
  have x2 : W.cell? ⟨Y, 2, none⟩ = some (.slice none 0 0) := by rw [hW, hY]; simp
  have x3 : W.cell? ⟨Y, 3, none⟩ = some (.slice none 0 0) := by rw [hW, hY]; simp
  have K0 : Hid (Below w.heap.size w W) := kW
  have z1 := World.block_lt_of_cell? _ _ x2
  simp only at z1
  clear kW
  go_enter Tryz.func15, Tryz.ntmps15
  go_wp2_with fail
  rw [← hW]
  try rw [← hY]
  clear hW hY
  refine (markE_nil k W).mono ?_
  rintro e w1 ⟨rfl, rfl⟩
  go_wp2_with fail
  refine (markLevs_nil k _).mono ?_
  rintro e w1 ⟨rfl, rfl⟩
  go_wp2_with fail
  refine (markInts_nil k _).mono ?_
  rintro e w1 ⟨rfl, rfl⟩
  go_wp2
  go_ret
  exact ⟨rfl, K0.out⟩
set_option maxRecDepth 100000 in
set_option maxHeartbeats 2000000 in
theorem heldTree_nil (q : Int) (k : Nat) (w : World) :
    Calls Tryz.prog 16 #[.agg #[.int .i64 q, .slice none 0 0, .slice none 0 0, .slice none 0 0], .int .i64 k] w fun e w' => e = .returned (.int .i64 (k : Int)) ∧ Below w.heap.size w w' := by
  obtain ⟨Y, hY⟩ : ∃ Y, Y = w.heap.size := ⟨_, rfl⟩
  obtain ⟨W, hW⟩ : ∃ W, W = w.alloc (.cells #[.int .i64 q, .slice none 0 0, .slice none 0 0, .slice none 0 0] 31) := ⟨_, rfl⟩
  have kW : Below w.heap.size w W := by rw [hW]; exact (Below.refl _ _).alloc (Nat.le_refl _) _
  have x2 : W.cell? ⟨Y, 2, none⟩ = some (.slice none 0 0) := by rw [hW, hY]; simp
  have x3 : W.cell? ⟨Y, 3, none⟩ = some (.slice none 0 0) := by rw [hW, hY]; simp
  have K0 : Hid (Below w.heap.size w W) := kW
  have z1 := World.block_lt_of_cell? _ _ x2
  simp only at z1
  have hk : ¬ (k : Int) < 0 := by omega
  clear kW
  go_enter Tryz.func16, Tryz.ntmps16
  go_wp2_with fail
  rw [← hW]
  try rw [← hY]
  clear hW hY
  refine (heldE_nil k W).mono ?_
  rintro e w1 ⟨rfl, rfl⟩
  go_wp2_with fail
  refine (heldLevs_nil k _).mono ?_
  rintro e w1 ⟨rfl, rfl⟩
  go_wp2_with fail
  refine (heldInts_nil k _).mono ?_
  rintro e w1 ⟨rfl, rfl⟩
  go_wp2
  go_ret
  exact ⟨rfl, K0.out⟩

/-- Sizes within which trees can be marked. -/
def Fits (M : List EntD) (V : List (List RunD)) (S : List Int) : Prop := M.length ≤ 1048576 ∧ V.length ≤ 1048576 ∧ (∀ B ∈ V, B.length ≤ 1048576 ∧ ∀ p ∈ B, p.1.length ≤ 1048576) ∧ S.length ≤ 1048576 ∧ 1 + 5 * M.length + mkV V + S.length ≤ 1000000000
theorem fits_nil : Fits [] [] [] := ⟨by simp, by simp, (fun B hB => by cases hB), by simp, by simp [mkV]⟩
theorem fits_sum {M : List EntD} {V : List (List RunD)} {S : List Int} (h : M.length + (szV V + V.length) + S.length ≤ 1048576) : Fits M V S := by
  have h4 := mkV_sz V
  refine ⟨by omega, by omega, fun B hB => ?_, by omega, by omega⟩
  have h1 := szV_mem hB
  refine ⟨by omega, fun p hp => ?_⟩
  have h2 := szL_mem hp
  omega
theorem markRes (q : Int) (lo hi nm nv ns : Nat) (am av ak : Option Addr) (M : List EntD) (V : List (List RunD)) (S : List Int) (gs bs : Nat → Nat) (es : Nat → Nat → Nat) (w : World) (hT : ResT lo hi w am nm av nv ak ns M V S gs bs es) (hhi : hi ≤ w.heap.size) (hf : Fits M V S) :
    Calls Tryz.prog 15 #[.agg #[.int .i64 q, .slice am nm nm, .slice av nv nv, .slice ak ns ns], .int .i64 1] w fun e w' => e = .returned (.int .i64 ((1 + 5 * nm + mkV V + ns : Nat) : Int)) ∧ ResT lo hi w' am nm av nv ak ns (markL 1 nm) (mrkV (1 + 5 * nm) V) (mrkS (1 + 5 * nm + mkV V) ns) gs bs es ∧ KeepO lo hi w w' := by
  have hl := hT.lens
  rcases hT with ⟨b1, b2, b3, rfl, rfl, rfl, h4⟩ | ⟨rfl, rfl, rfl, rfl, rfl, rfl, rfl, rfl, rfl⟩
  · obtain ⟨f1, f2, f3, f4, f5⟩ := hf
    refine (markTree_o q lo hi b1 nm b2 nv b3 ns 1 M V S gs bs es w h4 hhi (by omega) (by omega) f3 (by omega) (by omega) (by omega)).mono ?_
    rintro e w' ⟨rfl, h1, h2⟩
    exact ⟨rfl, .inl ⟨b1, b2, b3, rfl, rfl, rfl, h1⟩, h2⟩
  · refine (markTree_nil q 1 w).mono ?_
    rintro e w' ⟨rfl, h1⟩
    exact ⟨by simp [mkV], .inr ⟨rfl, rfl, rfl, rfl, rfl, rfl, by simp [markL], by simp [mrkV], by simp [mrkS]⟩, KeepO.of_below h1⟩
theorem heldRes (q : Int) (lo hi nm nv ns : Nat) (am av ak : Option Addr) (V : List (List RunD)) (gs bs : Nat → Nat) (es : Nat → Nat → Nat) (w : World) (hT : ResT lo hi w am nm av nv ak ns (markL 1 nm) (mrkV (1 + 5 * nm) V) (mrkS (1 + 5 * nm + mkV V) ns) gs bs es) (M : List EntD) (S : List Int) (hm : M.length = nm) (hs : S.length = ns) (hf : Fits M V S) :
    Calls Tryz.prog 16 #[.agg #[.int .i64 q, .slice am nm nm, .slice av nv nv, .slice ak ns ns], .int .i64 1] w fun e w' => e = .returned (.int .i64 ((1 + 5 * nm + mkV V + ns : Nat) : Int)) ∧ Below w.heap.size w w' := by
  have hl := hT.lens
  rcases hT with ⟨b1, b2, b3, rfl, rfl, rfl, h4⟩ | ⟨rfl, rfl, rfl, rfl, rfl, rfl, h5, h6, h7⟩
  · obtain ⟨f1, f2, f3, f4, f5⟩ := hf
    have hv := hl.2.1
    rw [mrkV_len] at hv
    exact heldTree_o q lo hi b1 nm b2 nv b3 ns 1 V gs bs es w h4 (by omega) (by omega) f3 (by omega) (by omega) (by omega)
  · have hv : V = [] := by
      have h8 := congrArg List.length h6
      rw [mrkV_len] at h8
      exact List.length_eq_zero_iff.1 h8
    subst hv
    refine (heldTree_nil q 1 w).mono ?_
    rintro e w' ⟨rfl, h1⟩
    exact ⟨by simp [mkV], h1⟩

/-- What the document's function answers: a tree, and whether it was done. -/
def DocR (q : Int) (M : List EntD) (V : List (List RunD)) (S : List Int) (ok : Bool) (w : World) (e : Ending) (w' : World) : Prop :=
  ∃ am nm cm av nv cv ak ns cs, e = .returned (.tuple #[.agg #[.int .i64 q, .slice am nm cm, .slice av nv cv, .slice ak ns cs], .bool ok]) ∧ TreeIn 0 w' am nm cm av nv cv ak ns cs M V S ∧ Below w.heap.size w w'
/-- What the program's function answers: a tree in memory of its own, and whether it was done. -/
def ImpR (q : Int) (M : List EntD) (V : List (List RunD)) (S : List Int) (ok : Bool) (w : World) (e : Ending) (w' : World) : Prop :=
  ∃ am nm av nv ak ns gs bs es, e = .returned (.tuple #[.agg #[.int .i64 q, .slice am nm nm, .slice av nv nv, .slice ak ns ns], .bool ok]) ∧ ResT w.heap.size w'.heap.size w' am nm av nv ak ns M V S gs bs es ∧ Below w.heap.size w w'

/-- Four cells at the beginning of a block. -/
structure At4 (w : World) (b : Nat) (u0 u1 u2 u3 : Value) : Prop where
  c0 : w.cell? ⟨b, 0, none⟩ = some u0
  c1 : w.cell? ⟨b, 1, none⟩ = some u1
  c2 : w.cell? ⟨b, 2, none⟩ = some u2
  c3 : w.cell? ⟨b, 3, none⟩ = some u3
theorem At4.lt {w : World} {b : Nat} {u0 u1 u2 u3 : Value} (h : At4 w b u0 u1 u2 u3) : b < w.heap.size := World.block_lt_of_cell? w _ h.c0
theorem At4.new (w : World) (t : TypeId) (u0 u1 u2 u3 : Value) : At4 (w.alloc (.cells #[u0, u1, u2, u3] t)) w.heap.size u0 u1 u2 u3 := ⟨by simp, by simp, by simp, by simp⟩
theorem At4.keep {w w' : World} {b : Nat} {u0 u1 u2 u3 : Value} (h : At4 w b u0 u1 u2 u3) (hb : Below w.heap.size w w') : At4 w' b u0 u1 u2 u3 := ⟨cell_later hb h.c0, cell_later hb h.c1, cell_later hb h.c2, cell_later hb h.c3⟩
theorem At4.keepO {lo hi : Nat} {w w' : World} {b : Nat} {u0 u1 u2 u3 : Value} (h : At4 w b u0 u1 u2 u3) (k : KeepO lo hi w w') (hb : b < lo ∨ hi ≤ b) : At4 w' b u0 u1 u2 u3 := ⟨keep_cell k hb h.c0, keep_cell k hb h.c1, keep_cell k hb h.c2, keep_cell k hb h.c3⟩
/-- What lies where, between two calls of a law over trees: w6 is the world behind the document's answer, Y holds the argument's copy, G the program's answer. -/
structure LawSt (w6 wi : World) (Y : Nat) (y0 y1 y2 y3 : Value) (G : Nat) (g0 : Value) (lo hi : Nat) (am : Option Addr) (nm : Nat) (av : Option Addr) (nv : Nat) (ak : Option Addr) (ns : Nat) (M : List EntD) (V : List (List RunD)) (S : List Int) (gs bs : Nat → Nat) (es : Nat → Nat → Nat) : Prop where
  low : Below w6.heap.size w6 wi
  hy : At4 wi Y y0 y1 y2 y3
  hg : At4 wi G g0 (.slice am nm nm) (.slice av nv nv) (.slice ak ns ns)
  res : ResT lo hi wi am nm av nv ak ns M V S gs bs es
theorem LawSt.below {w6 wi wj : World} {Y G lo hi nm nv ns : Nat} {y0 y1 y2 y3 g0 : Value} {am av ak : Option Addr} {M : List EntD} {V : List (List RunD)} {S : List Int} {gs bs : Nat → Nat} {es : Nat → Nat → Nat} (h : LawSt w6 wi Y y0 y1 y2 y3 G g0 lo hi am nm av nv ak ns M V S gs bs es) (hb : Below wi.heap.size wi wj) : LawSt w6 wj Y y0 y1 y2 y3 G g0 lo hi am nm av nv ak ns M V S gs bs es :=
  ⟨h.low.trans (hb.mono h.low.size), h.hy.keep hb, h.hg.keep hb, h.res.below hb⟩
theorem LawSt.markX {w6 wi wj : World} {Y G lo hi a b nm nv ns : Nat} {y0 y1 y2 y3 g0 : Value} {am av ak : Option Addr} {M : List EntD} {V : List (List RunD)} {S : List Int} {gs bs : Nat → Nat} {es : Nat → Nat → Nat} (h : LawSt w6 wi Y y0 y1 y2 y3 G g0 lo hi am nm av nv ak ns M V S gs bs es) (hk : MarkT a b wi wj) (ha : w6.heap.size ≤ a) (hY : b ≤ Y) (hl : b ≤ lo) (hG : b ≤ G) : LawSt w6 wj Y y0 y1 y2 y3 G g0 lo hi am nm av nv ak ns M V S gs bs es :=
  ⟨h.low.trans (hk.below ha h.low.size), h.hy.keepO (KeepO.of_mark hk) (.inr hY), h.hg.keepO (KeepO.of_mark hk) (.inr hG), h.res.keepO (KeepO.of_mark hk) hl⟩
theorem LawSt.markG {w6 wi wj : World} {Y G lo hi nm nv ns : Nat} {y0 y1 y2 y3 g0 : Value} {am av ak : Option Addr} {M M' : List EntD} {V V' : List (List RunD)} {S S' : List Int} {gs bs : Nat → Nat} {es : Nat → Nat → Nat} (h : LawSt w6 wi Y y0 y1 y2 y3 G g0 lo hi am nm av nv ak ns M V S gs bs es) (hk : KeepO lo hi wi wj) (hr : ResT lo hi wj am nm av nv ak ns M' V' S' gs bs es) (ha : w6.heap.size ≤ lo) (hY : Y < lo) (hG : hi ≤ G) : LawSt w6 wj Y y0 y1 y2 y3 G g0 lo hi am nm av nv ak ns M' V' S' gs bs es :=
  ⟨h.low.trans (hk.below ha h.low.size), h.hy.keepO hk (.inl hY), h.hg.keepO hk (.inr hG), hr⟩
/-- What the law's size check lets through. -/
def SumOk (M : List EntD) (V : List (List RunD)) (S : List Int) : Prop := M.length + (szV V + V.length) + S.length ≤ 1048576 ∧ (∀ e ∈ M, SmT e) ∧ ∀ B ∈ V, SmB B
end Go.Proofs.YtlmgojlffgkciaaGreat

namespace Go.Proofs.YtlmgojlffgkciaaGreat
open Go.RowKit

/-- Whether entries make a run. -/
def ofB (L : List EntD) : Bool := decide (1 ≤ L.length) && (decide (L.length ≤ 150) && rightB (sortE L))
def ofL (L : List EntD) : List EntD := if ofB L = true then sortE L else []
def ofM (L : List EntD) : Int := if ofB L = true then ((maskL (sortE L) : Nat) : Int) else 0
/-- A run in memory of its own, and whether it is one. -/
def OfR (F : List EntD) (m : Int) (ok : Bool) (w : World) (e : Ending) (w' : World) : Prop :=
  ∃ a n c, e = .returned (.tuple #[.agg #[.slice a n c, .int .i64 m], .bool ok]) ∧ OwnO w' w.heap.size a n c F ∧ Below w.heap.size w w'
theorem of_no {L : List EntD} (h : ofB L = false) {w w' : World} (hb : Below w.heap.size w w') : OfR (ofL L) (ofM L) (ofB L) w (.returned (.tuple #[.agg #[.slice none 0 0, .int .i64 0], .bool false])) w' := by
  unfold ofL ofM
  rw [h]
  exact ⟨none, 0, 0, rfl, OwnO.none _ _, hb⟩
theorem of_yes {L : List EntD} (h : ofB L = true) {w w' : World} {g n c : Nat} (ho : OwnE w' w.heap.size g n c (sortE L)) (hb : Below w.heap.size w w') : OfR (ofL L) (ofM L) (ofB L) w (.returned (.tuple #[.agg #[.slice (some ⟨g, 0, none⟩) n c, .int .i64 ((maskL (sortE L) : Nat) : Int)], .bool true])) w' := by
  unfold ofL ofM
  rw [h]
  exact ⟨_, n, c, rfl, OwnO.some ho, hb⟩
theorem of_len (L : List EntD) : (ofL L).length ≤ L.length := by
  unfold ofL
  split
  · rw [sortE_len]; exact Nat.le_refl _
  · exact Nat.zero_le _
end Go.Proofs.YtlmgojlffgkciaaGreat

namespace Go.Proofs.YtlmgojlffgkciaaGreat
open Go.RowKit

theorem right_of_strict {M : List EntD} (hs : Strict M) (he : ∀ e ∈ M, entB e.1 e.2.1 e.2.2.1 e.2.2.2.1 e.2.2.2.2 = true) : rightB M = true := by
  refine right_of (k := M.length) ?_ (Nat.le_refl _)
  intro j hj
  have hg : M[j]? = some M[j] := List.getElem?_eq_getElem hj
  match j, hj, hg with
  | 0, hj, hg => rw [okAt_zero hg]; exact he _ (List.getElem_mem hj)
  | i + 1, hj, hg =>
    have hi : M[i]? = some (M[i]'(by omega)) := List.getElem?_eq_getElem (by omega)
    rw [okAt_succ hg hi, he _ (List.getElem_mem hj)]
    exact (List.pairwise_iff_getElem.1 hs) i (i + 1) (by omega) hj (by omega)
theorem less_of_weak {a b : EntD} (h : lessE b a = false) (hd : ¬ (a.1 = b.1 ∧ a.2.1 = b.2.1)) : lessE a b = true := by
  have h1 := lessB_one a.1 b.1 a.2.1 b.2.1
  unfold lessE at h ⊢
  rw [h, Bool.or_false] at h1
  rw [h1]
  by_cases e : a.1 = b.1
  · have : ¬ a.2.1 = b.2.1 := fun e2 => hd ⟨e, e2⟩
    simp [this]
  · simp [e]
/-- The entries are of unlike keys or times. -/
def Unlike (L : List EntD) : Prop := L.Pairwise (fun a b => ¬ (a.1 = b.1 ∧ a.2.1 = b.2.1))
theorem unlike_perm {A B : List EntD} (h : Unlike A) (p : A.Perm B) : Unlike B :=
  (List.Perm.pairwise_iff (fun {_ _} h e => h ⟨e.1.symm, e.2.symm⟩) p).1 h
theorem unlike_right {L : List EntD} (h : rightB L = true) : Unlike L := by
  refine (right_strict h).imp ?_
  rintro a b hab ⟨e1, e2⟩
  unfold lessE at hab
  rw [e1, e2, lessB_self] at hab
  cases hab
theorem strict_of {M : List EntD} (hw : Weak M) (hu : Unlike M) : Strict M := by
  refine (List.Pairwise.and hw hu).imp ?_
  rintro a b ⟨h1, h2⟩
  exact less_of_weak h1 h2
theorem sort_unlike {F G : List EntD} (u : Unlike F) (p : F.Perm G) : sortE F = sortE G :=
  strict_weak (strict_of (sort_both F).1 (unlike_perm u (sort_both F).2.symm)) (sort_both G).1 ((sort_both F).2.trans (p.trans (sort_both G).2.symm))
end Go.Proofs.YtlmgojlffgkciaaGreat

namespace Go.Proofs.YtlmgojlffgkciaaGreat
open Go.RowKit

/-- What TreeAll answers. -/
def allL (q : Int) (M : List EntD) (V : List (List RunD)) (S : List Int) : List EntD := if treeB q M V S then sortE (partsL M V).flatten else []
theorem tree_unlike {q : Int} {M : List EntD} {A B C : List RunD} {S : List Int} (h : treeB q M [A, B, C] S = true) : Unlike (listsL M A B C).flatten := by
  have h1 := ((tree_impl q M A B C S).1 h).2.2.2.2.2.2
  refine ((newer_iff q _).1 h1).1.imp ?_
  intro x y ho e
  have := ho e.1
  omega
theorem rev_flatR (B : List RunD) : (B.reverse.map (·.1)).flatten.Perm (flatR B) := by
  unfold flatR
  rw [List.flatMap_def]
  exact ((List.reverse_perm B).map _).flatten
theorem lists_flat (M : List EntD) (A B C : List RunD) : (listsL M A B C).flatten.Perm (M ++ (flatR A ++ (flatR B ++ flatR C))) := by
  unfold listsL
  simp only [List.flatten_cons, List.flatten_append]
  exact (((rev_flatR A).append ((rev_flatR B).append (rev_flatR C)))).append_left _
theorem parts_flat (M : List EntD) (A B C : List RunD) : (partsL M [A, B, C]).flatten.Perm (M ++ (flatR A ++ (flatR B ++ flatR C))) := by
  unfold partsL
  simp only [List.headD_cons, List.drop_succ_cons, List.drop_zero, List.map_cons, List.map_nil, List.cons_append, List.flatten_cons, List.flatten_append, List.flatten_nil, List.append_nil]
  exact ((rev_flatR A).append_right _).append_left _
theorem sort_tree {q : Int} {M : List EntD} {A B C : List RunD} {S : List Int} (h : treeB q M [A, B, C] S = true) : sortE (listsL M A B C).flatten = sortE (partsL M [A, B, C]).flatten :=
  sort_unlike (tree_unlike h) ((lists_flat M A B C).trans (parts_flat M A B C).symm)
theorem flatR_sz (B : List RunD) : (flatR B).length = szL B := by
  unfold flatR szL
  rw [List.length_flatMap]
theorem flatR_sm {B : List RunD} (h : SmB B) : ∀ e ∈ flatR B, SmT e := by
  unfold flatR
  intro e he
  obtain ⟨p, hp, he⟩ := List.mem_flatMap.1 he
  exact h p hp e he
theorem tree_len (M : List EntD) (A B C : List RunD) : (M ++ (flatR A ++ (flatR B ++ flatR C))).length ≤ M.length + (szV [A, B, C] + [A, B, C].length) := by
  simp only [List.length_append, flatR_sz, szV, List.map_cons, List.map_nil, List.sum_cons, List.sum_nil]
  omega
theorem tree_sm {M : List EntD} {A B C : List RunD} (hM : ∀ e ∈ M, SmT e) (hV : ∀ Z ∈ [A, B, C], SmB Z) : ∀ e ∈ M ++ (flatR A ++ (flatR B ++ flatR C)), SmT e := by
  intro e he
  rcases List.mem_append.1 he with h | h
  · exact hM e h
  rcases List.mem_append.1 h with h | h
  · exact flatR_sm (hV A (by simp)) e h
  rcases List.mem_append.1 h with h | h
  · exact flatR_sm (hV B (by simp)) e h
  · exact flatR_sm (hV C (by simp)) e h
theorem three_of {q : Int} {M : List EntD} {V : List (List RunD)} {S : List Int} (h : treeB q M V S = true) : ∃ A B C, V = [A, B, C] := by
  have := (tree_parts h).2.2.2.2.2.1
  match V, this with
  | [A, B, C], _ => exact ⟨A, B, C, rfl⟩
theorem allL_len {q : Int} {M : List EntD} {V : List (List RunD)} {S : List Int} : (allL q M V S).length ≤ M.length + (szV V + V.length) := by
  unfold allL
  by_cases h : treeB q M V S = true
  · rw [if_pos h]
    obtain ⟨A, B, C, rfl⟩ := three_of h
    rw [(sort_both _).2.length_eq, (parts_flat M A B C).length_eq]
    exact tree_len M A B C
  · rw [if_neg h]
    simp
end Go.Proofs.YtlmgojlffgkciaaGreat
