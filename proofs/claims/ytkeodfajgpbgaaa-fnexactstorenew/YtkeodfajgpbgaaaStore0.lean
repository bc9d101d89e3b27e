/-
  Boxes of nine cells; how a store lies in memory, and how one that came in is opened.
-/
import Derived.Test.YtkeodfajgpbgaaaToTree
namespace Go.Proofs.Ytkeodfajgpbgaaa
open Go.RowKit Go.Joins Go.ChangeShapes Go.WideShapes

/-- A box of nine cells. -/
structure Box9 (w : World) (b : Nat) (u0 u1 u2 u3 u4 u5 u6 u7 u8 : Value) : Prop where
  c0 : w.cell? ⟨b, 0, none⟩ = some u0
  c1 : w.cell? ⟨b, 1, none⟩ = some u1
  c2 : w.cell? ⟨b, 2, none⟩ = some u2
  c3 : w.cell? ⟨b, 3, none⟩ = some u3
  c4 : w.cell? ⟨b, 4, none⟩ = some u4
  c5 : w.cell? ⟨b, 5, none⟩ = some u5
  c6 : w.cell? ⟨b, 6, none⟩ = some u6
  c7 : w.cell? ⟨b, 7, none⟩ = some u7
  c8 : w.cell? ⟨b, 8, none⟩ = some u8
  fz : ∀ o, w.frozen? ⟨b, o, none⟩ = false
theorem Box9.lt {w : World} {b : Nat} {u0 u1 u2 u3 u4 u5 u6 u7 u8 : Value} (h : Box9 w b u0 u1 u2 u3 u4 u5 u6 u7 u8) : b < w.heap.size := World.block_lt_of_cell? w _ h.c0
theorem Box9.new (w : World) (t : TypeId) (u0 u1 u2 u3 u4 u5 u6 u7 u8 : Value) : Box9 (w.alloc (.cells #[u0, u1, u2, u3, u4, u5, u6, u7, u8] t)) w.heap.size u0 u1 u2 u3 u4 u5 u6 u7 u8 := ⟨by simp, by simp, by simp, by simp, by simp, by simp, by simp, by simp, by simp, fun o => by simp⟩
theorem Box9.below {B : Nat} {w w' : World} {b : Nat} {u0 u1 u2 u3 u4 u5 u6 u7 u8 : Value} (h : Box9 w b u0 u1 u2 u3 u4 u5 u6 u7 u8) (hb : Below B w w') (hB : b < B) : Box9 w' b u0 u1 u2 u3 u4 u5 u6 u7 u8 :=
  ⟨(hb.cell (p := ⟨b, 0, none⟩) hB).trans h.c0, (hb.cell (p := ⟨b, 1, none⟩) hB).trans h.c1, (hb.cell (p := ⟨b, 2, none⟩) hB).trans h.c2, (hb.cell (p := ⟨b, 3, none⟩) hB).trans h.c3, (hb.cell (p := ⟨b, 4, none⟩) hB).trans h.c4, (hb.cell (p := ⟨b, 5, none⟩) hB).trans h.c5, (hb.cell (p := ⟨b, 6, none⟩) hB).trans h.c6, (hb.cell (p := ⟨b, 7, none⟩) hB).trans h.c7, (hb.cell (p := ⟨b, 8, none⟩) hB).trans h.c8, fun o => (World.frozen?_of_block (hb.block b hB)).trans (h.fz o)⟩
theorem Box9.keep {w w' : World} {b : Nat} {u0 u1 u2 u3 u4 u5 u6 u7 u8 : Value} (h : Box9 w b u0 u1 u2 u3 u4 u5 u6 u7 u8) (hb : Below w.heap.size w w') : Box9 w' b u0 u1 u2 u3 u4 u5 u6 u7 u8 := h.below hb h.lt
theorem Box9.alloc {w : World} {b : Nat} {u0 u1 u2 u3 u4 u5 u6 u7 u8 : Value} (h : Box9 w b u0 u1 u2 u3 u4 u5 u6 u7 u8) (o : Obj) : Box9 (w.alloc o) b u0 u1 u2 u3 u4 u5 u6 u7 u8 := h.keep ((Below.refl _ _).alloc (Nat.le_refl _) _)
theorem Box9.other {w : World} {b : Nat} {u0 u1 u2 u3 u4 u5 u6 u7 u8 : Value} (h : Box9 w b u0 u1 u2 u3 u4 u5 u6 u7 u8) {b' o : Nat} (hp : b' ≠ b) (x : Value) : Box9 (w.setCell ⟨b', o, none⟩ x) b u0 u1 u2 u3 u4 u5 u6 u7 u8 :=
  ⟨(cell_elsewhere x (fun e => hp e.1.symm)).trans h.c0, (cell_elsewhere x (fun e => hp e.1.symm)).trans h.c1, (cell_elsewhere x (fun e => hp e.1.symm)).trans h.c2, (cell_elsewhere x (fun e => hp e.1.symm)).trans h.c3, (cell_elsewhere x (fun e => hp e.1.symm)).trans h.c4, (cell_elsewhere x (fun e => hp e.1.symm)).trans h.c5, (cell_elsewhere x (fun e => hp e.1.symm)).trans h.c6, (cell_elsewhere x (fun e => hp e.1.symm)).trans h.c7, (cell_elsewhere x (fun e => hp e.1.symm)).trans h.c8, fun o => by rw [World.frozen?_setCell]; exact h.fz o⟩
theorem Box9.set0 {w : World} {b : Nat} {u0 u1 u2 u3 u4 u5 u6 u7 u8 : Value} (h : Box9 w b u0 u1 u2 u3 u4 u5 u6 u7 u8) (x : Value) : Box9 (w.setCell ⟨b, 0, none⟩ x) b x u1 u2 u3 u4 u5 u6 u7 u8 :=
  ⟨World.cell?_setCell_same' _ _ _ (by rw [h.c0]; rfl), (cell_elsewhere x (by simp)).trans h.c1, (cell_elsewhere x (by simp)).trans h.c2, (cell_elsewhere x (by simp)).trans h.c3, (cell_elsewhere x (by simp)).trans h.c4, (cell_elsewhere x (by simp)).trans h.c5, (cell_elsewhere x (by simp)).trans h.c6, (cell_elsewhere x (by simp)).trans h.c7, (cell_elsewhere x (by simp)).trans h.c8, fun o => by rw [World.frozen?_setCell]; exact h.fz o⟩
theorem Box9.set1 {w : World} {b : Nat} {u0 u1 u2 u3 u4 u5 u6 u7 u8 : Value} (h : Box9 w b u0 u1 u2 u3 u4 u5 u6 u7 u8) (x : Value) : Box9 (w.setCell ⟨b, 1, none⟩ x) b u0 x u2 u3 u4 u5 u6 u7 u8 :=
  ⟨(cell_elsewhere x (by simp)).trans h.c0, World.cell?_setCell_same' _ _ _ (by rw [h.c1]; rfl), (cell_elsewhere x (by simp)).trans h.c2, (cell_elsewhere x (by simp)).trans h.c3, (cell_elsewhere x (by simp)).trans h.c4, (cell_elsewhere x (by simp)).trans h.c5, (cell_elsewhere x (by simp)).trans h.c6, (cell_elsewhere x (by simp)).trans h.c7, (cell_elsewhere x (by simp)).trans h.c8, fun o => by rw [World.frozen?_setCell]; exact h.fz o⟩
theorem Box9.set2 {w : World} {b : Nat} {u0 u1 u2 u3 u4 u5 u6 u7 u8 : Value} (h : Box9 w b u0 u1 u2 u3 u4 u5 u6 u7 u8) (x : Value) : Box9 (w.setCell ⟨b, 2, none⟩ x) b u0 u1 x u3 u4 u5 u6 u7 u8 :=
  ⟨(cell_elsewhere x (by simp)).trans h.c0, (cell_elsewhere x (by simp)).trans h.c1, World.cell?_setCell_same' _ _ _ (by rw [h.c2]; rfl), (cell_elsewhere x (by simp)).trans h.c3, (cell_elsewhere x (by simp)).trans h.c4, (cell_elsewhere x (by simp)).trans h.c5, (cell_elsewhere x (by simp)).trans h.c6, (cell_elsewhere x (by simp)).trans h.c7, (cell_elsewhere x (by simp)).trans h.c8, fun o => by rw [World.frozen?_setCell]; exact h.fz o⟩
theorem Box9.set3 {w : World} {b : Nat} {u0 u1 u2 u3 u4 u5 u6 u7 u8 : Value} (h : Box9 w b u0 u1 u2 u3 u4 u5 u6 u7 u8) (x : Value) : Box9 (w.setCell ⟨b, 3, none⟩ x) b u0 u1 u2 x u4 u5 u6 u7 u8 :=
  ⟨(cell_elsewhere x (by simp)).trans h.c0, (cell_elsewhere x (by simp)).trans h.c1, (cell_elsewhere x (by simp)).trans h.c2, World.cell?_setCell_same' _ _ _ (by rw [h.c3]; rfl), (cell_elsewhere x (by simp)).trans h.c4, (cell_elsewhere x (by simp)).trans h.c5, (cell_elsewhere x (by simp)).trans h.c6, (cell_elsewhere x (by simp)).trans h.c7, (cell_elsewhere x (by simp)).trans h.c8, fun o => by rw [World.frozen?_setCell]; exact h.fz o⟩
theorem Box9.set4 {w : World} {b : Nat} {u0 u1 u2 u3 u4 u5 u6 u7 u8 : Value} (h : Box9 w b u0 u1 u2 u3 u4 u5 u6 u7 u8) (x : Value) : Box9 (w.setCell ⟨b, 4, none⟩ x) b u0 u1 u2 u3 x u5 u6 u7 u8 :=
  ⟨(cell_elsewhere x (by simp)).trans h.c0, (cell_elsewhere x (by simp)).trans h.c1, (cell_elsewhere x (by simp)).trans h.c2, (cell_elsewhere x (by simp)).trans h.c3, World.cell?_setCell_same' _ _ _ (by rw [h.c4]; rfl), (cell_elsewhere x (by simp)).trans h.c5, (cell_elsewhere x (by simp)).trans h.c6, (cell_elsewhere x (by simp)).trans h.c7, (cell_elsewhere x (by simp)).trans h.c8, fun o => by rw [World.frozen?_setCell]; exact h.fz o⟩
theorem Box9.set5 {w : World} {b : Nat} {u0 u1 u2 u3 u4 u5 u6 u7 u8 : Value} (h : Box9 w b u0 u1 u2 u3 u4 u5 u6 u7 u8) (x : Value) : Box9 (w.setCell ⟨b, 5, none⟩ x) b u0 u1 u2 u3 u4 x u6 u7 u8 :=
  ⟨(cell_elsewhere x (by simp)).trans h.c0, (cell_elsewhere x (by simp)).trans h.c1, (cell_elsewhere x (by simp)).trans h.c2, (cell_elsewhere x (by simp)).trans h.c3, (cell_elsewhere x (by simp)).trans h.c4, World.cell?_setCell_same' _ _ _ (by rw [h.c5]; rfl), (cell_elsewhere x (by simp)).trans h.c6, (cell_elsewhere x (by simp)).trans h.c7, (cell_elsewhere x (by simp)).trans h.c8, fun o => by rw [World.frozen?_setCell]; exact h.fz o⟩
theorem Box9.set6 {w : World} {b : Nat} {u0 u1 u2 u3 u4 u5 u6 u7 u8 : Value} (h : Box9 w b u0 u1 u2 u3 u4 u5 u6 u7 u8) (x : Value) : Box9 (w.setCell ⟨b, 6, none⟩ x) b u0 u1 u2 u3 u4 u5 x u7 u8 :=
  ⟨(cell_elsewhere x (by simp)).trans h.c0, (cell_elsewhere x (by simp)).trans h.c1, (cell_elsewhere x (by simp)).trans h.c2, (cell_elsewhere x (by simp)).trans h.c3, (cell_elsewhere x (by simp)).trans h.c4, (cell_elsewhere x (by simp)).trans h.c5, World.cell?_setCell_same' _ _ _ (by rw [h.c6]; rfl), (cell_elsewhere x (by simp)).trans h.c7, (cell_elsewhere x (by simp)).trans h.c8, fun o => by rw [World.frozen?_setCell]; exact h.fz o⟩
theorem Box9.set7 {w : World} {b : Nat} {u0 u1 u2 u3 u4 u5 u6 u7 u8 : Value} (h : Box9 w b u0 u1 u2 u3 u4 u5 u6 u7 u8) (x : Value) : Box9 (w.setCell ⟨b, 7, none⟩ x) b u0 u1 u2 u3 u4 u5 u6 x u8 :=
  ⟨(cell_elsewhere x (by simp)).trans h.c0, (cell_elsewhere x (by simp)).trans h.c1, (cell_elsewhere x (by simp)).trans h.c2, (cell_elsewhere x (by simp)).trans h.c3, (cell_elsewhere x (by simp)).trans h.c4, (cell_elsewhere x (by simp)).trans h.c5, (cell_elsewhere x (by simp)).trans h.c6, World.cell?_setCell_same' _ _ _ (by rw [h.c7]; rfl), (cell_elsewhere x (by simp)).trans h.c8, fun o => by rw [World.frozen?_setCell]; exact h.fz o⟩
theorem Box9.set8 {w : World} {b : Nat} {u0 u1 u2 u3 u4 u5 u6 u7 u8 : Value} (h : Box9 w b u0 u1 u2 u3 u4 u5 u6 u7 u8) (x : Value) : Box9 (w.setCell ⟨b, 8, none⟩ x) b u0 u1 u2 u3 u4 u5 u6 u7 x :=
  ⟨(cell_elsewhere x (by simp)).trans h.c0, (cell_elsewhere x (by simp)).trans h.c1, (cell_elsewhere x (by simp)).trans h.c2, (cell_elsewhere x (by simp)).trans h.c3, (cell_elsewhere x (by simp)).trans h.c4, (cell_elsewhere x (by simp)).trans h.c5, (cell_elsewhere x (by simp)).trans h.c6, (cell_elsewhere x (by simp)).trans h.c7, World.cell?_setCell_same' _ _ _ (by rw [h.c8]; rfl), fun o => by rw [World.frozen?_setCell]; exact h.fz o⟩

/-- A store: its tree and its disk's levels, as they lie. -/
structure StoreIn (lo : Nat) (w : World) (m : Option Addr) (nm cm : Nat) (v : Option Addr) (nv cv : Nat) (k : Option Addr) (ns cs : Nat) (d : Option Addr) (nd cd : Nat) (M : List EntD) (V : List (List RunD)) (S : List Int) (U : List (List RunD)) : Prop where
  tree : TreeIn lo w m nm cm v nv cv k ns cs M V S
  disk : LevelsIn lo w d nd cd U
theorem StoreIn.same {lo : Nat} {w w' : World} {m : Option Addr} {nm cm : Nat} {v : Option Addr} {nv cv : Nat} {k : Option Addr} {ns cs : Nat} {d : Option Addr} {nd cd : Nat} {M : List EntD} {V : List (List RunD)} {S : List Int} {U : List (List RunD)} (h : StoreIn lo w m nm cm v nv cv k ns cs d nd cd M V S U) (hs : Same lo w w') : StoreIn lo w' m nm cm v nv cv k ns cs d nd cd M V S U := ⟨h.tree.same hs, h.disk.same hs⟩
theorem StoreIn.keep {lo : Nat} {w w' : World} {m : Option Addr} {nm cm : Nat} {v : Option Addr} {nv cv : Nat} {k : Option Addr} {ns cs : Nat} {d : Option Addr} {nd cd : Nat} {M : List EntD} {V : List (List RunD)} {S : List Int} {U : List (List RunD)} (h : StoreIn lo w m nm cm v nv cv k ns cs d nd cd M V S U) (hb : Below w.heap.size w w') : StoreIn lo w' m nm cm v nv cv k ns cs d nd cd M V S U := h.same (Same.of_below hb)
theorem StoreIn.low {lo : Nat} {w : World} {m : Option Addr} {nm cm : Nat} {v : Option Addr} {nv cv : Nat} {k : Option Addr} {ns cs : Nat} {d : Option Addr} {nd cd : Nat} {M : List EntD} {V : List (List RunD)} {S : List Int} {U : List (List RunD)} (h : StoreIn lo w m nm cm v nv cv k ns cs d nd cd M V S U) : StoreIn 0 w m nm cm v nv cv k ns cs d nd cd M V S U := ⟨⟨h.tree.mem.mono (Nat.zero_le _), h.tree.levels.mono (Nat.zero_le _), h.tree.snaps.lower (Nat.zero_le _)⟩, h.disk.mono (Nat.zero_le _)⟩

theorem array9 {α : Type} {cs : Array α} (h : cs.size = 9) : ∃ c0 c1 c2 c3 c4 c5 c6 c7 c8, cs = #[c0, c1, c2, c3, c4, c5, c6, c7, c8] := by
  obtain ⟨l⟩ := cs
  match l, h with
  | [a, b, c, d, e, f, g, h, i], _ => exact ⟨a, b, c, d, e, f, g, h, i, rfl⟩
theorem Try.cellsStoreL : Try.prog.cellsOf 47 = 9 := by kernel_rfl
theorem Try.cellsDiskL : Try.prog.cellsOf 45 = 4 := by kernel_rfl
theorem Try.cellsBool1 : Try.prog.cellsOf 4 = 1 := by kernel_rfl
theorem Try.cellsTree4 : Try.prog.cellsOf 26 = 4 := by kernel_rfl
theorem Try.cellsInt1 : Try.prog.cellsOf 3 = 1 := by kernel_rfl
theorem Try.cellsStr1 : Try.prog.cellsOf 9 = 1 := by kernel_rfl
theorem Try.cellsEntsL1 : Try.prog.cellsOf 22 = 1 := by kernel_rfl
theorem Try.cellsRunsL1 : Try.prog.cellsOf 23 = 1 := by kernel_rfl
theorem Try.cellsInts1 : Try.prog.cellsOf 24 = 1 := by kernel_rfl
set_option maxRecDepth 100000 in
/-- A store that came in. -/
theorem open_store {H : Type} {enc : TypeId × Value → H} {W : World} {b0 base : Nat} {vv : Value} {dd : DataW H} {p : List MemPlace} {held : Bool}
    (hv : Value.okWide Try.prog W .any b0 47 vv) (h : DataW.Trod enc Try.prog W base (fun _ => true) held 47 vv dd p) :
    ∃ (up : Bool) (q : Int) (m : Option Addr) (nm cm : Nat) (v : Option Addr) (nv cv : Nat) (k : Option Addr) (ns cs : Nat) (lg : ByteArray) (sf : Int) (d : Option Addr) (nd cd : Nat) (sd : Int) (M : List EntD) (V : List (List RunD)) (S : List Int) (U : List (List RunD)), vv = .agg #[.bool up, .int .i64 q, .slice m nm cm, .slice v nv cv, .slice k ns cs, .string lg, .int .i64 sf, .slice d nd cd, .int .i64 sd] ∧ (lg.size ≤ maxLen ∧ StoreIn 0 W m nm cm v nv cv k ns cs d nd cd M V S U) := by
  obtain ⟨cs, rfl, hsz⟩ := okWide_struct Try.underlying47 hv
  obtain ⟨c0, c1, c2, c3, c4, c5, c6, c7, c8, rfl⟩ := array9 (hsz.trans Try.cellsStoreL)
  obtain ⟨fuel, hf⟩ := h
  obtain ⟨y0, y1, y2, n, _, _, h0, h1, h2⟩ := Deep.trod_struct3 Try.underlying47 hf
  simp [Value.cells, Try.cellsBool1] at h0
  simp [Value.cells, Try.cellsTree4] at h1
  simp [Value.cells, Try.cellsDiskL] at h2
  obtain ⟨z0, z1, z2, z3, n', _, _, g0, g1, g2, g3⟩ := trod_struct4 Try.underlying26 h1
  obtain ⟨x0, x1, x2, x3, n'', _, _, f0, f1, f2, f3⟩ := trod_struct4 Try.underlying45 h2
  simp [Try.cellsInt1] at g0
  simp [Try.cellsEntsL1] at g1
  simp [Try.cellsRunsL1] at g2
  simp [Try.cellsInts1] at g3
  simp [Try.cellsStr1] at f0
  simp [Try.cellsInt1] at f1
  simp [Try.cellsRunsL1] at f2
  simp [Try.cellsInt1] at f3
  obtain ⟨up, e0, _⟩ := DataW.trod_bool Try.underlying4 h0
  obtain ⟨q, e1, _, _⟩ := DataW.trod_int Try.underlying3 g0
  obtain ⟨m, nm, cm, M, rfl, hM⟩ := open_ents g1
  obtain ⟨v, nv, cv, V, rfl, hV⟩ := open_levels g2
  obtain ⟨k, ns, cs, S, rfl, hS⟩ := open_ints g3
  obtain ⟨lg, e5, _, wl⟩ := DataW.trod_string Try.underlying9 f0
  obtain ⟨sf, e6, _, _⟩ := DataW.trod_int Try.underlying3 f1
  obtain ⟨d, nd, cd, U, rfl, hU⟩ := open_levels f2
  obtain ⟨sd, e8, _, _⟩ := DataW.trod_int Try.underlying3 f3
  simp at e0 e1 e5 e6 e8
  subst e0 e1 e5 e6 e8
  exact ⟨up, q, m, nm, cm, v, nv, cv, k, ns, cs, lg, sf, d, nd, cd, sd, M, V, S, U, rfl, wl, ⟨⟨hM, fun _ _ _ => Nat.zero_le _⟩, hV, hS⟩, hU⟩
end Go.Proofs.Ytkeodfajgpbgaaa
