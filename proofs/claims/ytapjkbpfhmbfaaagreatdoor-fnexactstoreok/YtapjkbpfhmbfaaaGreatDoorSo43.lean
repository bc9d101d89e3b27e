/-
  What the program's isInLog tells of a store that is up, by a walk of its Go text.
  Boxes of nine cells; how a store lies in memory, and how one that came in is opened.
  What the program's shareDisk tells of a disk, by a walk of its Go text.
-/
import Derived.Test.YtapjkbpfhmbfaaaGreatDoorSo41
import Derived.Test.YtapjkbpfhmbfaaaGreatDoorSo42
import Derived.Test.YtapjkbpfhmbfaaaGreatDoorSo37
namespace Go.Proofs.YtapjkbpfhmbfaaaGreatDoor
open Go.RowKit
set_option maxRecDepth 100000
set_option maxHeartbeats 8000000
def logB (k : Nat) (n : Nat) (sd : Int) (P : List (List EntD)) (q : Int) (M : List EntD) : Bool := decide (k = n) && (decide (lastQ sd P = q) && decide (sortE (P.map (lateL sd)).flatten = M))
def LgE (lg : ByteArray) (sd q : Int) (M : List EntD) (w : World) (e : Ending) (w' : World) : Prop := ∃ (P : List (List EntD)) (k : Nat), Whole lg.data.toList P k ∧ e = .returned (.bool (logB k lg.size sd P q M)) ∧ Below w.heap.size w w'
theorem implInLog (q : Int) (am ak : Option Addr) (nm cm nk ck : Nat) (a0 a1 a2 : Option Addr) (n0 c0 n1 c1 n2 c2 : Nat) (M : List EntD) (lg : ByteArray) (sf sd : Int) (d0 d1 d2 : Option Addr) (m0 e0 m1 e1 m2 e2 : Nat) (w : World) (hM : EntsAt w am nm cm M) (hlg : lg.size ≤ 1048576) (hE : ErrB w.heap.size w) (hT : TabB w.heap.size w) :
    Calls Tryz.prog 93 #[.agg #[.bool true, .int .i64 q, .slice am nm cm, .slice a0 n0 c0, .slice a1 n1 c1, .slice a2 n2 c2, .slice ak nk ck, .string lg, .int .i64 sf, .slice d0 m0 e0, .slice d1 m1 e1, .slice d2 m2 e2, .int .i64 sd]] w (LgE lg sd q M w) := by
  obtain ⟨X, hX⟩ := ex' w.heap.size
  obtain ⟨W, hW⟩ := ex' (w.alloc (.cells #[.bool true, .int .i64 q, .slice am nm cm, .slice a0 n0 c0, .slice a1 n1 c1, .slice a2 n2 c2, .slice ak nk ck, .string lg, .int .i64 sf, .slice d0 m0 e0, .slice d1 m1 e1, .slice d2 m2 e2, .int .i64 sd] 71))
  have kW : Below w.heap.size w W := by rw [hW]; exact (Below.refl _ _).alloc (Nat.le_refl _) _
  have bx : Box13 W X (.bool true) (.int .i64 q) (.slice am nm cm) (.slice a0 n0 c0) (.slice a1 n1 c1) (.slice a2 n2 c2) (.slice ak nk ck) (.string lg) (.int .i64 sf) (.slice d0 m0 e0) (.slice d1 m1 e1) (.slice d2 m2 e2) (.int .i64 sd) := by rw [hW, hX]; exact Box13.new _ _ _ _ _ _ _ _ _ _ _ _ _ _ _
  have HBX := hiD bx
  have HKW := hiD kW
  have HM := hiD (hM.keep kW)
  have CR := implReadBack lg sf sd d0 d1 d2 m0 e0 m1 e1 m2 e2 W hlg (fun w' kk => hE w' (kW.trans (kk.mono kW.size))) (fun w' kk => hT w' (kW.trans (kk.mono kW.size)))
  have x7 := bx.c7
  have x8 := bx.c8
  have x9 := bx.c9
  have x10 := bx.c10
  have x11 := bx.c11
  have x12 := bx.c12
  have xz := bx.lt
  clear kW bx hE hT hM
  go_enter Tryz.func93, Tryz.ntmps93
  go_upto_region 1 with fail
  rw [← hX, ← hW]
  clear hX hW
  go_wp2_with fail
  refine CR.mono ?_
  rintro e w1 ⟨P, k, g, N, hwh, hN, rfl, hEn, hb1⟩
  have HWH := hiD hwh
  have HE1 := hiD hEn
  have HB1 := hiD hb1
  clear hwh hN hEn hb1 CR x7 x8 x9 x10 x11 x12 xz
  go_upto_region 2 with fail
  obtain ⟨LQ, hLQ⟩ := ex' (lastQ sd P)
  have HLQ := hiD hLQ
  obtain ⟨SL, hSL⟩ := ex' (sortE (P.map (lateL sd)).flatten)
  have HSL := hiD hSL
  rw [← hLQ]
  obtain ⟨w2, hw2⟩ := ex' (w1.alloc (.cells #[.int .i64 LQ, .slice (some ⟨g, 0, none⟩) N N, .slice d0 m0 e0, .slice d1 m1 e1, .slice d2 m2 e2, .slice none 0 0] 67))
  obtain ⟨Y, hY⟩ := ex' w1.heap.size
  have k2 : Below w1.heap.size w1 w2 := by rw [hw2]; exact (Below.refl _ _).alloc (Nat.le_refl _) _
  have HK2 : Hid (Below W.heap.size W w2) := HB1.out.trans (k2.mono HB1.out.size)
  have by2 : Box6 w2 Y (.int .i64 LQ) (.slice (some ⟨g, 0, none⟩) N N) (.slice d0 m0 e0) (.slice d1 m1 e1) (.slice d2 m2 e2) (.slice none 0 0) := by rw [hw2, hY]; exact Box6.new _ _ _ _ _ _ _ _
  have HXL := HBX.out.keep HK2.out
  have x1 := HXL.c1
  have x2 := HXL.c2
  have x7 := HXL.c7
  have xz := HXL.lt
  have y0 := by2.c0
  have y1 := by2.c1
  have yz := by2.lt
  have he2 := HE1.out.keep k2
  rw [← hSL] at he2
  have CE := entsEqual (some ⟨g, 0, none⟩) am N N nm cm SL M w2 he2 (HM.out.keep HK2.out)
  have HKF : Hid (Below w.heap.size w w2) := HKW.out.trans (HK2.out.mono HKW.out.size)
  rw [← hw2, ← hY]
  have HR : Hid (∀ b, b = (decide (k = lg.size) && (decide (LQ = q) && decide (SL = M))) → b = logB k lg.size sd P q M) := fun b hb => by rw [hb, HLQ.out, HSL.out]; rfl
  clear hw2 hY k2 by2 he2 hLQ hSL HXL HE1
  by_cases h1 : k = lg.size
  · have h1I : (k : Int) = (lg.size : Int) := by omega
    have h1b : ((k : Int) == (lg.size : Int)) = true := by simpa using h1I
    by_cases h2 : LQ = q
    · have h2b : (LQ == q) = true := by simpa using h2
      have hd : (decide (k = lg.size) && (decide (LQ = q) && decide (SL = M))) = decide (SL = M) := by simp [h1, h2]
      rw [hd] at HR
      have HR2 := hiD (HR.out _ rfl)
      clear HR
      obtain ⟨kk, hkk⟩ : ∃ kk : Int, kk = (k : Int) := ⟨_, rfl⟩
      rw [← hkk] at h1I h1b ⊢
      clear h1 h2 hd hkk
      go_wp2_with fail
      refine CE.mono ?_
      rintro e w3 ⟨rfl, hb3⟩
      go_wp2
      go_ret
      exact ⟨P, k, HWH.out, by rw [HR2.out]; rfl, HKF.out.trans (hb3.mono HKF.out.size)⟩
    · have h2b : (LQ == q) = false := by simpa using h2
      have hd : (decide (k = lg.size) && (decide (LQ = q) && decide (SL = M))) = false := by simp [h2]
      rw [hd] at HR
      have HR2 := hiD (HR.out _ rfl)
      clear HR hd CE
      go_wp2
      go_ret
      exact ⟨P, k, HWH.out, by rw [HR2.out]; rfl, HKF.out⟩
  · have h1I : ¬ (k : Int) = (lg.size : Int) := by omega
    have h1b : ((k : Int) == (lg.size : Int)) = false := by simpa using h1I
    have hd : (decide (k = lg.size) && (decide (LQ = q) && decide (SL = M))) = false := by simp [h1]
    rw [hd] at HR
    have HR2 := hiD (HR.out _ rfl)
    clear HR hd CE
    go_wp2
    go_ret
    exact ⟨P, k, HWH.out, by rw [HR2.out]; rfl, HKF.out⟩
end Go.Proofs.YtapjkbpfhmbfaaaGreatDoor

namespace Go.Proofs.YtapjkbpfhmbfaaaGreatDoor
set_option maxRecDepth 100000
open Go.RowKit Go.Joins Go.ChangeShapes Go.WideShapes
structure Box9 (w : World) (b : Nat) (u0 u1 u2 u3 u4 u5 u6 u7 u8 : Value) : Prop where
  c0 : w.cell? ⟨b, 0, none⟩ = some u0
  c1 : w.cell? ⟨b, 1, none⟩ = some u1
  c2 : w.cell? ⟨b, 2, none⟩ = some u2
  c3 : w.cell? ⟨b, 3, none⟩ = some u3
  c4 : w.cell? ⟨b, 4, none⟩ = some u4
  c5 : w.cell? ⟨b, 5, none⟩ = some u5
  c6 : w.cell? ⟨b, 6, none⟩ = some u6
  c7 : w.cell? ⟨b, 7, none⟩ = some u7
  c8 : w.cell? ⟨b, 8, none⟩ = some u8
  fz : ∀ o, w.frozen? ⟨b, o, none⟩ = false
theorem Box9.lt {w : World} {b : Nat} {u0 u1 u2 u3 u4 u5 u6 u7 u8 : Value} (h : Box9 w b u0 u1 u2 u3 u4 u5 u6 u7 u8) : b < w.heap.size := World.block_lt_of_cell? w _ h.c0
theorem Box9.new (w : World) (t : TypeId) (u0 u1 u2 u3 u4 u5 u6 u7 u8 : Value) : Box9 (w.alloc (.cells #[u0, u1, u2, u3, u4, u5, u6, u7, u8] t)) w.heap.size u0 u1 u2 u3 u4 u5 u6 u7 u8 := ⟨by simp, by simp, by simp, by simp, by simp, by simp, by simp, by simp, by simp, fun o => by simp⟩
theorem Box9.below {B : Nat} {w w' : World} {b : Nat} {u0 u1 u2 u3 u4 u5 u6 u7 u8 : Value} (h : Box9 w b u0 u1 u2 u3 u4 u5 u6 u7 u8) (hb : Below B w w') (hB : b < B) : Box9 w' b u0 u1 u2 u3 u4 u5 u6 u7 u8 :=
  ⟨(hb.cell (p := ⟨b, 0, none⟩) hB).trans h.c0, (hb.cell (p := ⟨b, 1, none⟩) hB).trans h.c1, (hb.cell (p := ⟨b, 2, none⟩) hB).trans h.c2, (hb.cell (p := ⟨b, 3, none⟩) hB).trans h.c3, (hb.cell (p := ⟨b, 4, none⟩) hB).trans h.c4, (hb.cell (p := ⟨b, 5, none⟩) hB).trans h.c5, (hb.cell (p := ⟨b, 6, none⟩) hB).trans h.c6, (hb.cell (p := ⟨b, 7, none⟩) hB).trans h.c7, (hb.cell (p := ⟨b, 8, none⟩) hB).trans h.c8, fun o => (World.frozen?_of_block (hb.block b hB)).trans (h.fz o)⟩
theorem Box9.keep {w w' : World} {b : Nat} {u0 u1 u2 u3 u4 u5 u6 u7 u8 : Value} (h : Box9 w b u0 u1 u2 u3 u4 u5 u6 u7 u8) (hb : Below w.heap.size w w') : Box9 w' b u0 u1 u2 u3 u4 u5 u6 u7 u8 := h.below hb h.lt
theorem Box9.alloc {w : World} {b : Nat} {u0 u1 u2 u3 u4 u5 u6 u7 u8 : Value} (h : Box9 w b u0 u1 u2 u3 u4 u5 u6 u7 u8) (o : Obj) : Box9 (w.alloc o) b u0 u1 u2 u3 u4 u5 u6 u7 u8 := h.keep ((Below.refl _ _).alloc (Nat.le_refl _) _)
theorem Box9.other {w : World} {b : Nat} {u0 u1 u2 u3 u4 u5 u6 u7 u8 : Value} (h : Box9 w b u0 u1 u2 u3 u4 u5 u6 u7 u8) {b' o : Nat} (hp : b' ≠ b) (x : Value) : Box9 (w.setCell ⟨b', o, none⟩ x) b u0 u1 u2 u3 u4 u5 u6 u7 u8 :=
  ⟨(cell_elsewhere x (fun e => hp e.1.symm)).trans h.c0, (cell_elsewhere x (fun e => hp e.1.symm)).trans h.c1, (cell_elsewhere x (fun e => hp e.1.symm)).trans h.c2, (cell_elsewhere x (fun e => hp e.1.symm)).trans h.c3, (cell_elsewhere x (fun e => hp e.1.symm)).trans h.c4, (cell_elsewhere x (fun e => hp e.1.symm)).trans h.c5, (cell_elsewhere x (fun e => hp e.1.symm)).trans h.c6, (cell_elsewhere x (fun e => hp e.1.symm)).trans h.c7, (cell_elsewhere x (fun e => hp e.1.symm)).trans h.c8, fun o => by rw [World.frozen?_setCell]; exact h.fz o⟩
theorem Box9.set0 {w : World} {b : Nat} {u0 u1 u2 u3 u4 u5 u6 u7 u8 : Value} (h : Box9 w b u0 u1 u2 u3 u4 u5 u6 u7 u8) (x : Value) : Box9 (w.setCell ⟨b, 0, none⟩ x) b x u1 u2 u3 u4 u5 u6 u7 u8 :=
  ⟨World.cell?_setCell_same' _ _ _ (by rw [h.c0]; rfl), (cell_elsewhere x (by simp)).trans h.c1, (cell_elsewhere x (by simp)).trans h.c2, (cell_elsewhere x (by simp)).trans h.c3, (cell_elsewhere x (by simp)).trans h.c4, (cell_elsewhere x (by simp)).trans h.c5, (cell_elsewhere x (by simp)).trans h.c6, (cell_elsewhere x (by simp)).trans h.c7, (cell_elsewhere x (by simp)).trans h.c8, fun o => by rw [World.frozen?_setCell]; exact h.fz o⟩
theorem Box9.set1 {w : World} {b : Nat} {u0 u1 u2 u3 u4 u5 u6 u7 u8 : Value} (h : Box9 w b u0 u1 u2 u3 u4 u5 u6 u7 u8) (x : Value) : Box9 (w.setCell ⟨b, 1, none⟩ x) b u0 x u2 u3 u4 u5 u6 u7 u8 :=
  ⟨(cell_elsewhere x (by simp)).trans h.c0, World.cell?_setCell_same' _ _ _ (by rw [h.c1]; rfl), (cell_elsewhere x (by simp)).trans h.c2, (cell_elsewhere x (by simp)).trans h.c3, (cell_elsewhere x (by simp)).trans h.c4, (cell_elsewhere x (by simp)).trans h.c5, (cell_elsewhere x (by simp)).trans h.c6, (cell_elsewhere x (by simp)).trans h.c7, (cell_elsewhere x (by simp)).trans h.c8, fun o => by rw [World.frozen?_setCell]; exact h.fz o⟩
theorem Box9.set2 {w : World} {b : Nat} {u0 u1 u2 u3 u4 u5 u6 u7 u8 : Value} (h : Box9 w b u0 u1 u2 u3 u4 u5 u6 u7 u8) (x : Value) : Box9 (w.setCell ⟨b, 2, none⟩ x) b u0 u1 x u3 u4 u5 u6 u7 u8 :=
  ⟨(cell_elsewhere x (by simp)).trans h.c0, (cell_elsewhere x (by simp)).trans h.c1, World.cell?_setCell_same' _ _ _ (by rw [h.c2]; rfl), (cell_elsewhere x (by simp)).trans h.c3, (cell_elsewhere x (by simp)).trans h.c4, (cell_elsewhere x (by simp)).trans h.c5, (cell_elsewhere x (by simp)).trans h.c6, (cell_elsewhere x (by simp)).trans h.c7, (cell_elsewhere x (by simp)).trans h.c8, fun o => by rw [World.frozen?_setCell]; exact h.fz o⟩
theorem Box9.set3 {w : World} {b : Nat} {u0 u1 u2 u3 u4 u5 u6 u7 u8 : Value} (h : Box9 w b u0 u1 u2 u3 u4 u5 u6 u7 u8) (x : Value) : Box9 (w.setCell ⟨b, 3, none⟩ x) b u0 u1 u2 x u4 u5 u6 u7 u8 :=
  ⟨(cell_elsewhere x (by simp)).trans h.c0, (cell_elsewhere x (by simp)).trans h.c1, (cell_elsewhere x (by simp)).trans h.c2, World.cell?_setCell_same' _ _ _ (by rw [h.c3]; rfl), (cell_elsewhere x (by simp)).trans h.c4, (cell_elsewhere x (by simp)).trans h.c5, (cell_elsewhere x (by simp)).trans h.c6, (cell_elsewhere x (by simp)).trans h.c7, (cell_elsewhere x (by simp)).trans h.c8, fun o => by rw [World.frozen?_setCell]; exact h.fz o⟩
theorem Box9.set4 {w : World} {b : Nat} {u0 u1 u2 u3 u4 u5 u6 u7 u8 : Value} (h : Box9 w b u0 u1 u2 u3 u4 u5 u6 u7 u8) (x : Value) : Box9 (w.setCell ⟨b, 4, none⟩ x) b u0 u1 u2 u3 x u5 u6 u7 u8 :=
  ⟨(cell_elsewhere x (by simp)).trans h.c0, (cell_elsewhere x (by simp)).trans h.c1, (cell_elsewhere x (by simp)).trans h.c2, (cell_elsewhere x (by simp)).trans h.c3, World.cell?_setCell_same' _ _ _ (by rw [h.c4]; rfl), (cell_elsewhere x (by simp)).trans h.c5, (cell_elsewhere x (by simp)).trans h.c6, (cell_elsewhere x (by simp)).trans h.c7, (cell_elsewhere x (by simp)).trans h.c8, fun o => by rw [World.frozen?_setCell]; exact h.fz o⟩
theorem Box9.set5 {w : World} {b : Nat} {u0 u1 u2 u3 u4 u5 u6 u7 u8 : Value} (h : Box9 w b u0 u1 u2 u3 u4 u5 u6 u7 u8) (x : Value) : Box9 (w.setCell ⟨b, 5, none⟩ x) b u0 u1 u2 u3 u4 x u6 u7 u8 :=
  ⟨(cell_elsewhere x (by simp)).trans h.c0, (cell_elsewhere x (by simp)).trans h.c1, (cell_elsewhere x (by simp)).trans h.c2, (cell_elsewhere x (by simp)).trans h.c3, (cell_elsewhere x (by simp)).trans h.c4, World.cell?_setCell_same' _ _ _ (by rw [h.c5]; rfl), (cell_elsewhere x (by simp)).trans h.c6, (cell_elsewhere x (by simp)).trans h.c7, (cell_elsewhere x (by simp)).trans h.c8, fun o => by rw [World.frozen?_setCell]; exact h.fz o⟩
theorem Box9.set6 {w : World} {b : Nat} {u0 u1 u2 u3 u4 u5 u6 u7 u8 : Value} (h : Box9 w b u0 u1 u2 u3 u4 u5 u6 u7 u8) (x : Value) : Box9 (w.setCell ⟨b, 6, none⟩ x) b u0 u1 u2 u3 u4 u5 x u7 u8 :=
  ⟨(cell_elsewhere x (by simp)).trans h.c0, (cell_elsewhere x (by simp)).trans h.c1, (cell_elsewhere x (by simp)).trans h.c2, (cell_elsewhere x (by simp)).trans h.c3, (cell_elsewhere x (by simp)).trans h.c4, (cell_elsewhere x (by simp)).trans h.c5, World.cell?_setCell_same' _ _ _ (by rw [h.c6]; rfl), (cell_elsewhere x (by simp)).trans h.c7, (cell_elsewhere x (by simp)).trans h.c8, fun o => by rw [World.frozen?_setCell]; exact h.fz o⟩
theorem Box9.set7 {w : World} {b : Nat} {u0 u1 u2 u3 u4 u5 u6 u7 u8 : Value} (h : Box9 w b u0 u1 u2 u3 u4 u5 u6 u7 u8) (x : Value) : Box9 (w.setCell ⟨b, 7, none⟩ x) b u0 u1 u2 u3 u4 u5 u6 x u8 :=
  ⟨(cell_elsewhere x (by simp)).trans h.c0, (cell_elsewhere x (by simp)).trans h.c1, (cell_elsewhere x (by simp)).trans h.c2, (cell_elsewhere x (by simp)).trans h.c3, (cell_elsewhere x (by simp)).trans h.c4, (cell_elsewhere x (by simp)).trans h.c5, (cell_elsewhere x (by simp)).trans h.c6, World.cell?_setCell_same' _ _ _ (by rw [h.c7]; rfl), (cell_elsewhere x (by simp)).trans h.c8, fun o => by rw [World.frozen?_setCell]; exact h.fz o⟩
theorem Box9.set8 {w : World} {b : Nat} {u0 u1 u2 u3 u4 u5 u6 u7 u8 : Value} (h : Box9 w b u0 u1 u2 u3 u4 u5 u6 u7 u8) (x : Value) : Box9 (w.setCell ⟨b, 8, none⟩ x) b u0 u1 u2 u3 u4 u5 u6 u7 x :=
  ⟨(cell_elsewhere x (by simp)).trans h.c0, (cell_elsewhere x (by simp)).trans h.c1, (cell_elsewhere x (by simp)).trans h.c2, (cell_elsewhere x (by simp)).trans h.c3, (cell_elsewhere x (by simp)).trans h.c4, (cell_elsewhere x (by simp)).trans h.c5, (cell_elsewhere x (by simp)).trans h.c6, (cell_elsewhere x (by simp)).trans h.c7, World.cell?_setCell_same' _ _ _ (by rw [h.c8]; rfl), fun o => by rw [World.frozen?_setCell]; exact h.fz o⟩
structure StoreIn (lo : Nat) (w : World) (m : Option Addr) (nm cm : Nat) (v : Option Addr) (nv cv : Nat) (k : Option Addr) (ns cs : Nat) (d : Option Addr) (nd cd : Nat) (M : List EntD) (V : List (List RunD)) (S : List Int) (U : List (List RunD)) : Prop where
  tree : TreeIn lo w m nm cm v nv cv k ns cs M V S
  disk : LevelsIn lo w d nd cd U
theorem StoreIn.same {lo : Nat} {w w' : World} {m : Option Addr} {nm cm : Nat} {v : Option Addr} {nv cv : Nat} {k : Option Addr} {ns cs : Nat} {d : Option Addr} {nd cd : Nat} {M : List EntD} {V : List (List RunD)} {S : List Int} {U : List (List RunD)} (h : StoreIn lo w m nm cm v nv cv k ns cs d nd cd M V S U) (hs : Same lo w w') : StoreIn lo w' m nm cm v nv cv k ns cs d nd cd M V S U := ⟨h.tree.same hs, h.disk.same hs⟩
theorem StoreIn.keep {lo : Nat} {w w' : World} {m : Option Addr} {nm cm : Nat} {v : Option Addr} {nv cv : Nat} {k : Option Addr} {ns cs : Nat} {d : Option Addr} {nd cd : Nat} {M : List EntD} {V : List (List RunD)} {S : List Int} {U : List (List RunD)} (h : StoreIn lo w m nm cm v nv cv k ns cs d nd cd M V S U) (hb : Below w.heap.size w w') : StoreIn lo w' m nm cm v nv cv k ns cs d nd cd M V S U := h.same (Same.of_below hb)
theorem StoreIn.low {lo : Nat} {w : World} {m : Option Addr} {nm cm : Nat} {v : Option Addr} {nv cv : Nat} {k : Option Addr} {ns cs : Nat} {d : Option Addr} {nd cd : Nat} {M : List EntD} {V : List (List RunD)} {S : List Int} {U : List (List RunD)} (h : StoreIn lo w m nm cm v nv cv k ns cs d nd cd M V S U) : StoreIn 0 w m nm cm v nv cv k ns cs d nd cd M V S U := ⟨⟨h.tree.mem.mono (Nat.zero_le _), h.tree.levels.mono (Nat.zero_le _), h.tree.snaps.lower (Nat.zero_le _)⟩, h.disk.mono (Nat.zero_le _)⟩
theorem array9 {α : Type} {cs : Array α} (h : cs.size = 9) : ∃ c0 c1 c2 c3 c4 c5 c6 c7 c8, cs = #[c0, c1, c2, c3, c4, c5, c6, c7, c8] := by
  obtain ⟨l⟩ := cs
  match l, h with
  | [a, b, c, d, e, f, g, h, i], _ => exact ⟨a, b, c, d, e, f, g, h, i, rfl⟩
theorem Tryz.cellsStoreL : Tryz.prog.cellsOf 30 = 9 := by kernel_rfl
theorem Tryz.cellsDiskL : Tryz.prog.cellsOf 28 = 4 := by kernel_rfl
theorem Tryz.cellsBool1 : Tryz.prog.cellsOf 4 = 1 := by kernel_rfl
theorem Tryz.cellsTree4 : Tryz.prog.cellsOf 26 = 4 := by kernel_rfl
theorem Tryz.cellsInt1 : Tryz.prog.cellsOf 3 = 1 := by kernel_rfl
theorem Tryz.cellsStr1 : Tryz.prog.cellsOf 9 = 1 := by kernel_rfl
theorem Tryz.cellsEntsL1 : Tryz.prog.cellsOf 22 = 1 := by kernel_rfl
theorem Tryz.cellsRunsL1 : Tryz.prog.cellsOf 23 = 1 := by kernel_rfl
theorem Tryz.cellsInts1 : Tryz.prog.cellsOf 24 = 1 := by kernel_rfl
theorem open_store {H : Type} {enc : TypeId × Value → H} {W : World} {b0 base : Nat} {vv : Value} {dd : DataW H} {p : List MemPlace} {held : Bool}
    (hv : Value.okWide Tryz.prog W .any b0 30 vv) (h : DataW.Trod enc Tryz.prog W base (fun _ => true) held 30 vv dd p) :
    ∃ (up : Bool) (q : Int) (m : Option Addr) (nm cm : Nat) (v : Option Addr) (nv cv : Nat) (k : Option Addr) (ns cs : Nat) (lg : ByteArray) (sf : Int) (d : Option Addr) (nd cd : Nat) (sd : Int) (M : List EntD) (V : List (List RunD)) (S : List Int) (U : List (List RunD)), vv = .agg #[.bool up, .int .i64 q, .slice m nm cm, .slice v nv cv, .slice k ns cs, .string lg, .int .i64 sf, .slice d nd cd, .int .i64 sd] ∧ (lg.size ≤ maxLen ∧ StoreIn 0 W m nm cm v nv cv k ns cs d nd cd M V S U) := by
  obtain ⟨cs, rfl, hsz⟩ := okWide_struct Tryz.underlying30 hv
  obtain ⟨c0, c1, c2, c3, c4, c5, c6, c7, c8, rfl⟩ := array9 (hsz.trans Tryz.cellsStoreL)
  obtain ⟨fuel, hf⟩ := h
  obtain ⟨y0, y1, y2, n, _, _, h0, h1, h2⟩ := Deep.trod_struct3 Tryz.underlying30 hf
  simp [Value.cells, Tryz.cellsBool1] at h0
  simp [Value.cells, Tryz.cellsTree4] at h1
  simp [Value.cells, Tryz.cellsDiskL] at h2
  obtain ⟨z0, z1, z2, z3, n', _, _, g0, g1, g2, g3⟩ := trod_struct4 Tryz.underlying26 h1
  obtain ⟨x0, x1, x2, x3, n'', _, _, f0, f1, f2, f3⟩ := trod_struct4 Tryz.underlying28 h2
  simp [Tryz.cellsInt1] at g0
  simp [Tryz.cellsEntsL1] at g1
  simp [Tryz.cellsRunsL1] at g2
  simp [Tryz.cellsInts1] at g3
  simp [Tryz.cellsStr1] at f0
  simp [Tryz.cellsInt1] at f1
  simp [Tryz.cellsRunsL1] at f2
  simp [Tryz.cellsInt1] at f3
  obtain ⟨up, e0, _⟩ := DataW.trod_bool Tryz.underlying4 h0
  obtain ⟨q, e1, _, _⟩ := DataW.trod_int Tryz.underlying3 g0
  obtain ⟨m, nm, cm, M, rfl, hM⟩ := open_ents g1
  obtain ⟨v, nv, cv, V, rfl, hV⟩ := open_levels g2
  obtain ⟨k, ns, cs, S, rfl, hS⟩ := open_ints g3
  obtain ⟨lg, e5, _, wl⟩ := DataW.trod_string Tryz.underlying9 f0
  obtain ⟨sf, e6, _, _⟩ := DataW.trod_int Tryz.underlying3 f1
  obtain ⟨d, nd, cd, U, rfl, hU⟩ := open_levels f2
  obtain ⟨sd, e8, _, _⟩ := DataW.trod_int Tryz.underlying3 f3
  simp at e0 e1 e5 e6 e8
  subst e0 e1 e5 e6 e8
  exact ⟨up, q, m, nm, cm, v, nv, cv, k, ns, cs, lg, sf, d, nd, cd, sd, M, V, S, U, rfl, wl, ⟨⟨hM, fun _ _ _ => Nat.zero_le _⟩, hV, hS⟩, hU⟩
end Go.Proofs.YtapjkbpfhmbfaaaGreatDoor

namespace Go.Proofs.YtapjkbpfhmbfaaaGreatDoor
open Go.RowKit
set_option maxRecDepth 100000
set_option maxHeartbeats 8000000
theorem ents_nil (w : World) (a : Option Addr) : EntsAt w a 0 0 [] := ⟨rfl, Nat.le_refl _, Nat.zero_le _, by simp, fun _ => rfl, (fun _ _ h => absurd h (Nat.lt_irrefl _)), fun _ _ _ h => absurd h (Nat.not_lt_zero _)⟩
theorem ints_nil (lo : Nat) (w : World) (a : Option Addr) : IntsIn lo w a 0 0 [] := ⟨rfl, Nat.le_refl _, Nat.zero_le _, by simp, fun _ => rfl, (fun _ _ h => absurd h (Nat.lt_irrefl _)), fun _ _ _ h => absurd h (Nat.not_lt_zero _)⟩
def Lv3 (lo : Nat) (w : World) (a0 : Option Addr) (n0 c0 : Nat) (a1 : Option Addr) (n1 c1 : Nat) (a2 : Option Addr) (n2 c2 : Nat) (U : List (List RunD)) : Prop := ∃ A B C, U = [A, B, C] ∧ RunsIn lo w a0 n0 c0 A ∧ RunsIn lo w a1 n1 c1 B ∧ RunsIn lo w a2 n2 c2 C
theorem Lv3.keep {lo : Nat} {w w' : World} {a0 a1 a2 : Option Addr} {n0 c0 n1 c1 n2 c2 : Nat} {U : List (List RunD)} (h : Lv3 lo w a0 n0 c0 a1 n1 c1 a2 n2 c2 U) (hb : Below w.heap.size w w') : Lv3 lo w' a0 n0 c0 a1 n1 c1 a2 n2 c2 U := by
  obtain ⟨A, B, C, h1, h2, h3, h4⟩ := h
  exact ⟨A, B, C, h1, h2.keep hb, h3.keep hb, h4.keep hb⟩
def ShT (lo : Nat) (sd : Int) (U : List (List RunD)) (w W : World) (e : Ending) (w' : World) : Prop := ∃ (z : Int) (a0 a1 a2 : Option Addr) (n0 c0 n1 c1 n2 c2 : Nat), e = .returned (.tuple #[.agg #[.int .i64 z, .slice none 0 0, .slice a0 n0 c0, .slice a1 n1 c1, .slice a2 n2 c2, .slice none 0 0], .bool (treeB sd [] U [])]) ∧ (treeB sd [] U [] = true → Lv3 lo w a0 n0 c0 a1 n1 c1 a2 n2 c2 U) ∧ Below W.heap.size W w'
theorem shTree (lo : Nat) (sd : Int) (dv : Option Addr) (nd cd : Nat) (U : List (List RunD)) (w W : World) (hU : LevelsIn lo w dv nd cd U) (k : Below w.heap.size w W) :
    Calls Tryz.prog 90 #[.agg #[.int .i64 sd, .slice none 0 0, .slice dv nd cd, .slice none 0 0]] W (ShT lo sd U w W) := by
  by_cases hn : nd = 3
  · subst hn
    obtain ⟨b, o, rfl, _⟩ := hU.form (by omega)
    obtain ⟨A, a0, n0, c0, hA, l0, hR0⟩ := hU.level (Below.refl _ w) 0 (by omega)
    obtain ⟨B, a1, n1, c1, hB, l1, hR1⟩ := hU.level (Below.refl _ w) 1 (by omega)
    obtain ⟨C, a2, n2, c2, hC, l2, hR2⟩ := hU.level (Below.refl _ w) 2 (by omega)
    have hL := hU.length
    have hV : U = [A, B, C] := by
      match U, hL with
      | [x, y, z], _ =>
        simp only [List.getElem?_cons_zero, List.getElem?_cons_succ, Option.some.injEq] at hA hB hC
        rw [hA, hB, hC]
    subst hV
    refine (implShare lo sd none none 0 0 b o cd 0 0 [] A B C [] a0 a1 a2 n0 c0 n1 c1 n2 c2 W (ents_nil W _) (ints_nil lo W _) (hR0.keep k) (hR1.keep k) (hR2.keep k) (cell_later k (by simpa using l0)) (cell_later k l1) (cell_later k l2)).mono ?_
    rintro e w' ⟨rfl, hb⟩
    exact ⟨sd, a0, a1, a2, n0, c0, n1, c1, n2, c2, rfl, fun _ => ⟨A, B, C, rfl, hR0, hR1, hR2⟩, hb⟩
  · refine (implShareNo sd none dv none 0 0 nd cd 0 0 W hn).mono ?_
    rintro e w' ⟨rfl, hb⟩
    have h0 : treeB sd [] U [] = false := tree_no (fun h => hn (by
      have := (tree_parts h).2.2.2.2.2.1
      rw [hU.length] at this
      exact this))
    exact ⟨0, none, none, none, 0, 0, 0, 0, 0, 0, by rw [h0], (fun h => by rw [h0] at h; cases h), hb⟩
def diskB (lg : ByteArray) (sf sd : Int) (U : List (List RunD)) : Bool := treeB sd [] U [] && (decide (lg.size ≤ 12000) && (decide (0 ≤ sf) && decide (sf ≤ (lg.size : Int))))
def ShE (lo : Nat) (lg : ByteArray) (sf sd : Int) (U : List (List RunD)) (u w : World) (e : Ending) (w' : World) : Prop := ∃ (a0 a1 a2 : Option Addr) (n0 c0 n1 c1 n2 c2 : Nat), e = .returned (.tuple #[.agg #[.string lg, .int .i64 sf, .slice a0 n0 c0, .slice a1 n1 c1, .slice a2 n2 c2, .int .i64 sd], .bool (diskB lg sf sd U)]) ∧ (diskB lg sf sd U = true → Lv3 lo u a0 n0 c0 a1 n1 c1 a2 n2 c2 U) ∧ Below w.heap.size w w'
theorem implShareDisk (lo : Nat) (lg : ByteArray) (sf sd : Int) (dv : Option Addr) (nd cd : Nat) (U : List (List RunD)) (u w : World) (hU : LevelsIn lo u dv nd cd U) (ku : Below u.heap.size u w) :
    Calls Tryz.prog 87 #[.agg #[.string lg, .int .i64 sf, .slice dv nd cd, .int .i64 sd]] w (ShE lo lg sf sd U u w) := by
  obtain ⟨X, hX⟩ := ex' w.heap.size
  obtain ⟨W, hW⟩ := ex' ((w.alloc (.cells #[.string lg, .int .i64 sf, .slice dv nd cd, .int .i64 sd] 38)).alloc (.cells #[.string ⟨#[]⟩, .int .i64 0, .slice none 0 0, .slice none 0 0, .slice none 0 0, .int .i64 0] 69))
  have kW : Below w.heap.size w W := by rw [hW]; exact ((Below.refl _ _).alloc (Nat.le_refl _) _).alloc (by simp) _
  have bx : Box4 W X (.string lg) (.int .i64 sf) (.slice dv nd cd) (.int .i64 sd) := by rw [hW, hX]; exact (Box4.new _ _ _ _ _ _).alloc _
  have br : Box6 W (X + 1) (.string ⟨#[]⟩) (.int .i64 0) (.slice none 0 0) (.slice none 0 0) (.slice none 0 0) (.int .i64 0) := by
    have := Box6.new (w.alloc (.cells #[.string lg, .int .i64 sf, .slice dv nd cd, .int .i64 sd] 38)) 69 (.string ⟨#[]⟩) (.int .i64 0) (.slice none 0 0) (.slice none 0 0) (.slice none 0 0) (.int .i64 0)
    rw [World.size_alloc] at this
    rw [hW, hX]
    exact this
  have HXW := hiD hX
  have HBX := hiD bx
  have HBR := hiD br
  have HKW := hiD kW
  have CT := shTree lo sd dv nd cd U u W hU (ku.trans (kW.mono ku.size))
  have HU := hiD hU
  have x0 := bx.c0
  have x1 := bx.c1
  have x2 := bx.c2
  have x3 := bx.c3
  have xz := bx.lt
  clear kW bx br hU ku
  go_enter Tryz.func87, Tryz.ntmps87
  go_upto_region 1 with fail
  rw [← hX, ← hW]
  clear hX hW
  go_wp2_with fail
  refine CT.mono ?_
  rintro e w1 ⟨z, a0, a1, a2, n0, c0, n1, c1, n2, c2, rfl, hlv, hb1⟩
  obtain ⟨TB, hTB⟩ := ex' (treeB sd [] U [])
  have HTB := hiD hTB
  rw [← hTB]
  have HB1 := hiD hb1
  have HLW := hiD hlv
  clear hlv hb1 hTB CT x0 x1 x2 x3 xz
  go_upto_region 2 with fail
  obtain ⟨w2, hw2⟩ := ex' (w1.alloc (.cells #[.int .i64 z, .slice none 0 0, .slice a0 n0 c0, .slice a1 n1 c1, .slice a2 n2 c2, .slice none 0 0] 67))
  obtain ⟨Y, hY⟩ := ex' w1.heap.size
  have k2 : Below w1.heap.size w1 w2 := by rw [hw2]; exact (Below.refl _ _).alloc (Nat.le_refl _) _
  have HK2 : Hid (Below W.heap.size W w2) := HB1.out.trans (k2.mono HB1.out.size)
  have by2 : Box6 w2 Y (.int .i64 z) (.slice none 0 0) (.slice a0 n0 c0) (.slice a1 n1 c1) (.slice a2 n2 c2) (.slice none 0 0) := by rw [hw2, hY]; exact Box6.new _ _ _ _ _ _ _ _
  have bx2 := HBX.out.keep HK2.out
  have br2 := HBR.out.keep HK2.out
  have x0 := bx2.c0
  have x1 := bx2.c1
  have x3 := bx2.c3
  have xz := bx2.lt
  have y2 := by2.c2
  have y3 := by2.c3
  have y4 := by2.c4
  have yz := by2.lt
  have r0 := br2.c0
  have r1 := br2.c1
  have r2 := br2.c2
  have r3 := br2.c3
  have r4 := br2.c4
  have r5 := br2.c5
  have rf := br2.fz
  have rz := br2.lt
  have hyx : Y ≠ X + 1 := by
    have h1 := HBR.out.lt
    have h2 := HB1.out.size
    omega
  have hlw2 : TB = true → Lv3 lo u a0 n0 c0 a1 n1 c1 a2 n2 c2 U := fun h => HLW.out (by rw [← HTB.out]; exact h)
  obtain ⟨DB, hDB⟩ := ex' (diskB lg sf sd U)
  have HDB := hiD hDB
  have hdb2 : DB = (TB && (decide (lg.size ≤ 12000) && (decide (0 ≤ sf) && decide (sf ≤ (lg.size : Int))))) := by rw [hDB, HTB.out]; rfl
  rw [← hw2, ← hY]
  clear hw2 hY k2 by2 hDB HLW HTB
  have HBR2 := hiD br2
  have hx1 : w.heap.size ≤ X + 1 := by have := HXW.out; omega
  obtain ⟨wz, hwz⟩ : ∃ wz, wz = (((((w2.setCell ⟨X + 1, 0, none⟩ (.string lg)).setCell ⟨X + 1, 1, none⟩ (.int .i64 sf)).setCell ⟨X + 1, 2, none⟩ (.slice a0 n0 c0)).setCell ⟨X + 1, 3, none⟩ (.slice a1 n1 c1)).setCell ⟨X + 1, 4, none⟩ (.slice a2 n2 c2)).setCell ⟨X + 1, 5, none⟩ (.int .i64 sd) := ⟨_, rfl⟩
  have HKZ : Hid (Below w.heap.size w wz) := by
    rw [hwz]
    exact ((((((HKW.out.trans (HK2.out.mono HKW.out.size)).setCell (p := ⟨X + 1, 0, none⟩) hx1 _).setCell (p := ⟨X + 1, 1, none⟩) hx1 _).setCell (p := ⟨X + 1, 2, none⟩) hx1 _).setCell (p := ⟨X + 1, 3, none⟩) hx1 _).setCell (p := ⟨X + 1, 4, none⟩) hx1 _).setCell (p := ⟨X + 1, 5, none⟩) hx1 _
  have HRZ : Hid (Box6 wz (X + 1) (.string lg) (.int .i64 sf) (.slice a0 n0 c0) (.slice a1 n1 c1) (.slice a2 n2 c2) (.int .i64 sd)) := by
    rw [hwz]
    exact (((((br2.set0 _).set1 _).set2 _).set3 _).set4 _).set5 _
  have HFIN : Hid (∀ b, b = DB → ShE lo lg sf sd U u w (.returned (.tuple #[.agg #[.string lg, .int .i64 sf, .slice a0 n0 c0, .slice a1 n1 c1, .slice a2 n2 c2, .int .i64 sd], .bool b])) wz) := fun b hb => by
    refine ⟨a0, a1, a2, n0, c0, n1, c1, n2, c2, by rw [hb, HDB.out], fun h => ?_, HKZ.out⟩
    rw [← HDB.out, hdb2, Bool.and_eq_true] at h
    exact hlw2 h.1
  have hcs : (TB = false ∧ DB = false) ∨ (TB = true ∧ ¬ lg.size ≤ 12000 ∧ DB = false) ∨ (TB = true ∧ lg.size ≤ 12000 ∧ ¬ 0 ≤ sf ∧ DB = false) ∨ (TB = true ∧ lg.size ≤ 12000 ∧ 0 ≤ sf ∧ ¬ sf ≤ (lg.size : Int) ∧ DB = false) ∨ (TB = true ∧ lg.size ≤ 12000 ∧ 0 ≤ sf ∧ sf ≤ (lg.size : Int) ∧ DB = true) := by
    cases TB with
    | false => exact Or.inl ⟨rfl, by rw [hdb2]; rfl⟩
    | true =>
      by_cases e1 : lg.size ≤ 12000
      · by_cases e2 : 0 ≤ sf
        · by_cases e3 : sf ≤ (lg.size : Int)
          · exact Or.inr (Or.inr (Or.inr (Or.inr ⟨rfl, e1, e2, e3, by rw [hdb2]; simp [e1, e2, e3]⟩)))
          · exact Or.inr (Or.inr (Or.inr (Or.inl ⟨rfl, e1, e2, e3, by rw [hdb2]; simp [e1, e2, e3]⟩)))
        · exact Or.inr (Or.inr (Or.inl ⟨rfl, e1, e2, by rw [hdb2]; simp [e1, e2]⟩))
      · exact Or.inr (Or.inl ⟨rfl, e1, by rw [hdb2]; simp [e1]⟩)
  have HWZ := hiD hwz
  clear hdb2 br2 bx2 hwz hyx hx1 hlw2
  rcases hcs with ⟨rfl, h9⟩ | ⟨rfl, e1, h9⟩ | ⟨rfl, e1, e2, h9⟩ | ⟨rfl, e1, e2, e3, h9⟩ | ⟨rfl, e1, e2, e3, h9⟩
  · have HF := hiD (HFIN.out _ h9.symm)
    clear h9 HFIN
    go_wp2
    rw [← HWZ.out]
    have e := HRZ.out
    refine bodyPost_ret (v := .tuple #[.agg #[.string lg, .int .i64 sf, .slice a0 n0 c0, .slice a1 n1 c1, .slice a2 n2 c2, .int .i64 sd], .bool false]) ?_ rfl HF.out
    simp [results, Tryz.results87, go_sem, e.c0, e.c1, e.c2, e.c3, e.c4, e.c5]
  · have e1I : ¬ (lg.size : Int) ≤ 12000 := by omega
    have HF := hiD (HFIN.out _ h9.symm)
    clear h9 HFIN
    go_wp2
    rw [← HWZ.out]
    have e := HRZ.out
    refine bodyPost_ret (v := .tuple #[.agg #[.string lg, .int .i64 sf, .slice a0 n0 c0, .slice a1 n1 c1, .slice a2 n2 c2, .int .i64 sd], .bool false]) ?_ rfl HF.out
    simp [results, Tryz.results87, go_sem, e.c0, e.c1, e.c2, e.c3, e.c4, e.c5]
  · have e1I : (lg.size : Int) ≤ 12000 := by omega
    have HF := hiD (HFIN.out _ h9.symm)
    clear h9 HFIN
    go_wp2
    rw [← HWZ.out]
    have e := HRZ.out
    refine bodyPost_ret (v := .tuple #[.agg #[.string lg, .int .i64 sf, .slice a0 n0 c0, .slice a1 n1 c1, .slice a2 n2 c2, .int .i64 sd], .bool false]) ?_ rfl HF.out
    simp [results, Tryz.results87, go_sem, e.c0, e.c1, e.c2, e.c3, e.c4, e.c5]
  · have e1I : (lg.size : Int) ≤ 12000 := by omega
    have HF := hiD (HFIN.out _ h9.symm)
    clear h9 HFIN
    go_wp2
    rw [← HWZ.out]
    have e := HRZ.out
    refine bodyPost_ret (v := .tuple #[.agg #[.string lg, .int .i64 sf, .slice a0 n0 c0, .slice a1 n1 c1, .slice a2 n2 c2, .int .i64 sd], .bool false]) ?_ rfl HF.out
    simp [results, Tryz.results87, go_sem, e.c0, e.c1, e.c2, e.c3, e.c4, e.c5]
  · have e1I : (lg.size : Int) ≤ 12000 := by omega
    have HF := hiD (HFIN.out _ h9.symm)
    clear h9 HFIN
    go_wp2
    rw [← HWZ.out]
    have e := HRZ.out
    refine bodyPost_ret (v := .tuple #[.agg #[.string lg, .int .i64 sf, .slice a0 n0 c0, .slice a1 n1 c1, .slice a2 n2 c2, .int .i64 sd], .bool true]) ?_ rfl HF.out
    simp [results, Tryz.results87, go_sem, e.c0, e.c1, e.c2, e.c3, e.c4, e.c5]
end Go.Proofs.YtapjkbpfhmbfaaaGreatDoor
