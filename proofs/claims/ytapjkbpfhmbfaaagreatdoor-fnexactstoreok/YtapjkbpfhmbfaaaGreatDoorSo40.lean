/-
  What the program's logsAnew, its step, after and open answer, by walks of their Go text.
  Boxes of thirteen cells (a shared store); no statement of the program stands here.
-/
import Derived.Test.YtapjkbpfhmbfaaaGreatDoorSo39
import Derived.Test.YtapjkbpfhmbfaaaGreatDoorSo37
namespace Go.Proofs.YtapjkbpfhmbfaaaGreatDoor
open Go.RowKit
set_option maxRecDepth 100000
set_option maxHeartbeats 4000000
theorem logsAnew_any (t : ByteArray) (w : World) :
    Calls Tryz.prog 109 #[.string t] w fun e w' => ∃ b : Nat, e = .returned (.func (.func 157) #[] #[.pointer (some ⟨b, 0, none⟩)]) ∧ w'.cell? ⟨b, 0, none⟩ = some (.string t) ∧ Below w.heap.size w w' := by
  go_enter Tryz.func109, Tryz.ntmps109
  go_wp2
  go_ret
  exact ⟨w.heap.size, rfl, by simp, (Below.refl _ _).alloc (Nat.le_refl _) _⟩
theorem logsStep (b : Nat) (t lg : ByteArray) (sf : Value) (d0 d1 d2 : Option Addr) (m0 e0 m1 e1 m2 e2 : Nat) (sd : Int) (w : World) (hb : w.cell? ⟨b, 0, none⟩ = some (.string t)) :
    Calls Tryz.prog 157 #[.agg #[.string lg, sf, .slice d0 m0 e0, .slice d1 m1 e1, .slice d2 m2 e2, .int .i64 sd], .pointer (some ⟨b, 0, none⟩)] w fun e w' => e = .returned (.agg #[.string t, .int .i64 (t.size : Int), .slice d0 m0 e0, .slice d1 m1 e1, .slice d2 m2 e2, .int .i64 sd]) ∧ Below w.heap.size w w' := by
  obtain ⟨X, hX⟩ := ex' w.heap.size
  obtain ⟨W, hW⟩ := ex' ((w.alloc (.cells #[.string lg, sf, .slice d0 m0 e0, .slice d1 m1 e1, .slice d2 m2 e2, .int .i64 sd] 69)).alloc (.cells #[.string ⟨#[]⟩, .int .i64 0, .slice none 0 0, .slice none 0 0, .slice none 0 0, .int .i64 0] 69))
  have kW : Below w.heap.size w W := by rw [hW]; exact ((Below.refl _ _).alloc (Nat.le_refl _) _).alloc (by simp) _
  have bx : Box6 W X (.string lg) sf (.slice d0 m0 e0) (.slice d1 m1 e1) (.slice d2 m2 e2) (.int .i64 sd) := by rw [hW, hX]; exact (Box6.new _ _ _ _ _ _ _ _).alloc _
  have br : Box6 W (X + 1) (.string ⟨#[]⟩) (.int .i64 0) (.slice none 0 0) (.slice none 0 0) (.slice none 0 0) (.int .i64 0) := by
    have := Box6.new (w.alloc (.cells #[.string lg, sf, .slice d0 m0 e0, .slice d1 m1 e1, .slice d2 m2 e2, .int .i64 sd] 69)) 69 (.string ⟨#[]⟩) (.int .i64 0) (.slice none 0 0) (.slice none 0 0) (.slice none 0 0) (.int .i64 0)
    rw [World.size_alloc] at this
    rw [hW, hX]
    exact this
  have hbW := cell_later kW hb
  have hbz := World.block_lt_of_cell? _ _ hb
  simp only at hbz
  have HXW := hiD hX
  have HBX := hiD bx
  have HBR := hiD br
  have HKW := hiD kW
  have HMK : Hid (∀ w', (Below W.heap.size W w' ∧ True) → (w'.cell? ⟨b, 0, none⟩ = some (.string t) ∧ X < w'.heap.size)) := fun w' k => ⟨cell_later k.1 hbW, Nat.lt_of_lt_of_le bx.lt k.1.size⟩
  clear kW bx br
  go_enter Tryz.func157, Tryz.ntmps157
  go_upto_region 1 with fail
  rw [← hX, ← hW]
  clear hX hW
  refine drw HMK ⟨(Below.refl _ W).drew, trivial⟩ fun hHeld => ?_
  refine tkr 0 4 hHeld ?_
  have k0 : Below W.heap.size W W.drew := (Below.refl _ W).drew
  have bx := HBX.out.keep k0
  have br := HBR.out.keep k0
  have HKD : Hid (Below w.heap.size w W.drew) := HKW.out.drew
  generalize W.drew = wd at hHeld bx br HKD ⊢
  have c0 := bx.c0
  have c1 := bx.c1
  have cf := bx.fz
  have cz := bx.lt
  have hbX : X ≠ b := by have := HXW.out; omega
  have HS1 : Hid ((wd.setCell ⟨X, 0, none⟩ (.string t)).cell? ⟨b, 0, none⟩ = some (.string t) ∧ X < (wd.setCell ⟨X, 0, none⟩ (.string t)).heap.size) := ⟨by rw [World.cell?_setCell_other _ _ _ _ (fun e => hbX (congrArg Addr.block e))]; exact hHeld.1, by simpa [World.setCell] using cz⟩
  have HS2 : Hid (((wd.setCell ⟨X, 0, none⟩ (.string t)).setCell ⟨X, 1, none⟩ (.int .i64 (t.size : Int))).cell? ⟨b, 0, none⟩ = some (.string t) ∧ X < ((wd.setCell ⟨X, 0, none⟩ (.string t)).setCell ⟨X, 1, none⟩ (.int .i64 (t.size : Int))).heap.size) := ⟨by rw [World.cell?_setCell_other _ _ _ _ (fun e => hbX (congrArg Addr.block e))]; exact HS1.out.1, by simpa [World.setCell] using cz⟩
  have HBZ := hiD ((bx.set0 (.string t)).set1 (.int .i64 (t.size : Int)))
  have HRZ := hiD ((br.other (b' := X) (o := 0) (by omega) (.string t)).other (b' := X) (o := 1) (by omega) (.int .i64 (t.size : Int)))
  have hx : w.heap.size ≤ X := by have := HXW.out; omega
  have HKZ := hiD ((HKD.out.setCell (p := ⟨X, 0, none⟩) hx (.string t)).setCell (p := ⟨X, 1, none⟩) hx (.int .i64 (t.size : Int)))
  clear bx br HMK HBX HBR
  refine rd1 4 fun K hK => ?_
  go_simp
  refine hK.out _ _ HS1.out (fun hHeld => ?_)
  clear hK K
  (try go_frame)
  refine tkr 5 1 hHeld ?_
  refine rd1 6 fun K hK => ?_
  go_simp
  refine hK.out _ _ HS2.out (fun hHeld => ?_)
  clear hK K
  (try go_frame)
  refine dN ?_
  have b0 := HBZ.out.c0
  have b1 := HBZ.out.c1
  have b2 := HBZ.out.c2
  have b3 := HBZ.out.c3
  have b4 := HBZ.out.c4
  have b5 := HBZ.out.c5
  have bl := HBZ.out.lt
  have r0 := HRZ.out.c0
  have r1 := HRZ.out.c1
  have r2 := HRZ.out.c2
  have r3 := HRZ.out.c3
  have r4 := HRZ.out.c4
  have r5 := HRZ.out.c5
  have rf := HRZ.out.fz
  have rl := HRZ.out.lt
  clear HS1 HS2 c0 c1 cf cz hHeld
  generalize (wd.setCell ⟨X, 0, none⟩ (.string t)).setCell ⟨X, 1, none⟩ (.int .i64 (t.size : Int)) = wz at *
  go_wp2
  refine bodyPost_ret (v := .agg #[.string t, .int .i64 (t.size : Int), .slice d0 m0 e0, .slice d1 m1 e1, .slice d2 m2 e2, .int .i64 sd]) ?_ rfl ⟨rfl, ?_⟩
  · have e := (((((HRZ.out.set0 (.string t)).set1 (.int .i64 (t.size : Int))).set2 (.slice d0 m0 e0)).set3 (.slice d1 m1 e1)).set4 (.slice d2 m2 e2)).set5 (.int .i64 sd)
    simp [results, Tryz.results157, go_sem, e.c0, e.c1, e.c2, e.c3, e.c4, e.c5]
  · have hx1 : w.heap.size ≤ X + 1 := by omega
    exact (((((HKZ.out.setCell (p := ⟨X + 1, 0, none⟩) hx1 _).setCell (p := ⟨X + 1, 1, none⟩) hx1 _).setCell (p := ⟨X + 1, 2, none⟩) hx1 _).setCell (p := ⟨X + 1, 3, none⟩) hx1 _).setCell (p := ⟨X + 1, 4, none⟩) hx1 _).setCell (p := ⟨X + 1, 5, none⟩) hx1 _
theorem after_one (r b : Nat) (t lg : ByteArray) (sf : Value) (d0 d1 d2 : Option Addr) (m0 e0 m1 e1 m2 e2 : Nat) (sd : Int) (w : World) (hb : w.cell? ⟨b, 0, none⟩ = some (.string t)) (hr : w.cell? ⟨r, 0, none⟩ = some (.func (.func 157) #[] #[.pointer (some ⟨b, 0, none⟩)])) :
    Calls Tryz.prog 108 #[.agg #[.string lg, sf, .slice d0 m0 e0, .slice d1 m1 e1, .slice d2 m2 e2, .int .i64 sd], .slice (some ⟨r, 0, none⟩) 1 1] w fun e w' => e = .returned (.agg #[.string t, .int .i64 (t.size : Int), .slice d0 m0 e0, .slice d1 m1 e1, .slice d2 m2 e2, .int .i64 sd]) ∧ Below w.heap.size w w' := by
  obtain ⟨X, hX⟩ := ex' w.heap.size
  obtain ⟨W, hW⟩ := ex' ((w.alloc (.cells #[.string lg, sf, .slice d0 m0 e0, .slice d1 m1 e1, .slice d2 m2 e2, .int .i64 sd] 69)).alloc (.cells #[.string ⟨#[]⟩, .int .i64 0, .slice none 0 0, .slice none 0 0, .slice none 0 0, .int .i64 0] 69))
  have kW : Below w.heap.size w W := by rw [hW]; exact ((Below.refl _ _).alloc (Nat.le_refl _) _).alloc (by simp) _
  have bx : Box6 W X (.string lg) sf (.slice d0 m0 e0) (.slice d1 m1 e1) (.slice d2 m2 e2) (.int .i64 sd) := by rw [hW, hX]; exact (Box6.new _ _ _ _ _ _ _ _).alloc _
  have br : Box6 W (X + 1) (.string ⟨#[]⟩) (.int .i64 0) (.slice none 0 0) (.slice none 0 0) (.slice none 0 0) (.int .i64 0) := by
    have := Box6.new (w.alloc (.cells #[.string lg, sf, .slice d0 m0 e0, .slice d1 m1 e1, .slice d2 m2 e2, .int .i64 sd] 69)) 69 (.string ⟨#[]⟩) (.int .i64 0) (.slice none 0 0) (.slice none 0 0) (.slice none 0 0) (.int .i64 0)
    rw [World.size_alloc] at this
    rw [hW, hX]
    exact this
  have HRW := hiD hr
  have HBW := hiD hb
  have HXW := hiD hX
  have HBX := hiD bx
  have HBR := hiD br
  have HKW := hiD kW
  clear kW bx br hb hr
  go_enter Tryz.func108, Tryz.ntmps108
  go_upto_region 1 with fail
  rw [← hX, ← hW]
  clear hX hW
  go_wp2
  go_loopw [9] (fun iv wr => Below w.heap.size w wr ∧ Box6 wr (X + 1) (.string ⟨#[]⟩) (.int .i64 0) (.slice none 0 0) (.slice none 0 0) (.slice none 0 0) (.int .i64 0) ∧ ((iv = .int .i64 0 ∧ Box6 wr X (.string lg) sf (.slice d0 m0 e0) (.slice d1 m1 e1) (.slice d2 m2 e2) (.int .i64 sd)) ∨ (iv = .int .i64 1 ∧ Box6 wr X (.string t) (.int .i64 (t.size : Int)) (.slice d0 m0 e0) (.slice d1 m1 e1) (.slice d2 m2 e2) (.int .i64 sd)))) (fun iv _ => 1 - (intOf iv).toNat)
  case atStart => exact ⟨HKW.out, HBR.out, Or.inl ⟨rfl, HBX.out⟩⟩
  case round =>
    obtain ⟨hk, hbr, hcase⟩ := hrel
    have HK := hiD hk
    have HR := hiD hbr
    clear HBX HBR HKW
    rcases hcase with ⟨rfl, hbx⟩ | ⟨rfl, hbx⟩
    · have HX1 := hiD hbx
      have c0 := hbx.c0
      have c1 := hbx.c1
      have c2 := hbx.c2
      have c3 := hbx.c3
      have c4 := hbx.c4
      have c5 := hbx.c5
      have cz := hbx.lt
      have cr := cell_later hk HRW.out
      have CS := logsStep b t lg sf d0 d1 d2 m0 e0 m1 e1 m2 e2 sd wr (cell_later hk HBW.out)
      clear hk hbr hbx
      go_wp2_with fail
      refine CS.mono ?_
      rintro e w2 ⟨rfl, hb2⟩
      have HX2 := hiD (HX1.out.keep hb2)
      have HR2 := hiD (HR.out.keep hb2)
      have HK2 : Hid (Below w.heap.size w w2) := HK.out.trans (hb2.mono HK.out.size)
      have x := HX2.out
      have a0 := x.c0
      have a1 := x.c1
      have a2 := x.c2
      have a3 := x.c3
      have a4 := x.c4
      have a5 := x.c5
      have af := x.fz
      have az := x.lt
      clear hb2 x c0 c1 c2 c3 c4 c5 cz cr CS HX1 HR HK
      go_wp2
      go_roundw
      case rel =>
        have hx : w.heap.size ≤ X := by have := HXW.out; omega
        refine ⟨?_, ?_, Or.inr ⟨by first | rfl | go_num, ?_⟩⟩
        · exact (((((HK2.out.setCell (p := ⟨X, 0, none⟩) hx _).setCell (p := ⟨X, 1, none⟩) hx _).setCell (p := ⟨X, 2, none⟩) hx _).setCell (p := ⟨X, 3, none⟩) hx _).setCell (p := ⟨X, 4, none⟩) hx _).setCell (p := ⟨X, 5, none⟩) hx _
        · have hne : X ≠ X + 1 := by omega
          exact (((((HR2.out.other hne _).other hne _).other hne _).other hne _).other hne _).other hne _
        · exact (((((HX2.out.set0 _).set1 _).set2 _).set3 _).set4 _).set5 _
      case measure => simp [intOf]
    · have HX1 := hiD hbx
      have c0 := hbx.c0
      have c1 := hbx.c1
      have c2 := hbx.c2
      have c3 := hbx.c3
      have c4 := hbx.c4
      have c5 := hbx.c5
      have cz := hbx.lt
      have r0 := hbr.c0
      have r1 := hbr.c1
      have r2 := hbr.c2
      have r3 := hbr.c3
      have r4 := hbr.c4
      have r5 := hbr.c5
      have rf := hbr.fz
      have rz := hbr.lt
      clear hk hbr hbx
      go_wp2
      refine bodyPost_ret (v := .agg #[.string t, .int .i64 (t.size : Int), .slice d0 m0 e0, .slice d1 m1 e1, .slice d2 m2 e2, .int .i64 sd]) ?_ rfl ⟨rfl, ?_⟩
      · have e := (((((HR.out.set0 (.string t)).set1 (.int .i64 (t.size : Int))).set2 (.slice d0 m0 e0)).set3 (.slice d1 m1 e1)).set4 (.slice d2 m2 e2)).set5 (.int .i64 sd)
        simp [results, Tryz.results108, go_sem, e.c0, e.c1, e.c2, e.c3, e.c4, e.c5]
      · have hx1 : w.heap.size ≤ X + 1 := by have := HXW.out; omega
        exact (((((HK.out.setCell (p := ⟨X + 1, 0, none⟩) hx1 _).setCell (p := ⟨X + 1, 1, none⟩) hx1 _).setCell (p := ⟨X + 1, 2, none⟩) hx1 _).setCell (p := ⟨X + 1, 3, none⟩) hx1 _).setCell (p := ⟨X + 1, 4, none⟩) hx1 _).setCell (p := ⟨X + 1, 5, none⟩) hx1 _
end Go.Proofs.YtapjkbpfhmbfaaaGreatDoor

namespace Go.Proofs.YtapjkbpfhmbfaaaGreatDoor
open Go.RowKit
structure Box13 (w : World) (b : Nat) (u0 u1 u2 u3 u4 u5 u6 u7 u8 u9 u10 u11 u12 : Value) : Prop where
  c0 : w.cell? ⟨b, 0, none⟩ = some u0
  c1 : w.cell? ⟨b, 1, none⟩ = some u1
  c2 : w.cell? ⟨b, 2, none⟩ = some u2
  c3 : w.cell? ⟨b, 3, none⟩ = some u3
  c4 : w.cell? ⟨b, 4, none⟩ = some u4
  c5 : w.cell? ⟨b, 5, none⟩ = some u5
  c6 : w.cell? ⟨b, 6, none⟩ = some u6
  c7 : w.cell? ⟨b, 7, none⟩ = some u7
  c8 : w.cell? ⟨b, 8, none⟩ = some u8
  c9 : w.cell? ⟨b, 9, none⟩ = some u9
  c10 : w.cell? ⟨b, 10, none⟩ = some u10
  c11 : w.cell? ⟨b, 11, none⟩ = some u11
  c12 : w.cell? ⟨b, 12, none⟩ = some u12
  fz : ∀ o, w.frozen? ⟨b, o, none⟩ = false
theorem Box13.lt {w : World} {b : Nat} {u0 u1 u2 u3 u4 u5 u6 u7 u8 u9 u10 u11 u12 : Value} (h : Box13 w b u0 u1 u2 u3 u4 u5 u6 u7 u8 u9 u10 u11 u12) : b < w.heap.size := World.block_lt_of_cell? w _ h.c0
theorem Box13.new (w : World) (t : TypeId) (u0 u1 u2 u3 u4 u5 u6 u7 u8 u9 u10 u11 u12 : Value) : Box13 (w.alloc (.cells #[u0, u1, u2, u3, u4, u5, u6, u7, u8, u9, u10, u11, u12] t)) w.heap.size u0 u1 u2 u3 u4 u5 u6 u7 u8 u9 u10 u11 u12 := ⟨by simp, by simp, by simp, by simp, by simp, by simp, by simp, by simp, by simp, by simp, by simp, by simp, by simp, fun o => by simp⟩
theorem Box13.keep {w w' : World} {b : Nat} {u0 u1 u2 u3 u4 u5 u6 u7 u8 u9 u10 u11 u12 : Value} (h : Box13 w b u0 u1 u2 u3 u4 u5 u6 u7 u8 u9 u10 u11 u12) (hb : Below w.heap.size w w') : Box13 w' b u0 u1 u2 u3 u4 u5 u6 u7 u8 u9 u10 u11 u12 :=
  ⟨cell_later hb h.c0, cell_later hb h.c1, cell_later hb h.c2, cell_later hb h.c3, cell_later hb h.c4, cell_later hb h.c5, cell_later hb h.c6, cell_later hb h.c7, cell_later hb h.c8, cell_later hb h.c9, cell_later hb h.c10, cell_later hb h.c11, cell_later hb h.c12, fun o => (hb.frozen (p := ⟨b, o, none⟩) h.lt).trans (h.fz o)⟩
theorem Box13.alloc {w : World} {b : Nat} {u0 u1 u2 u3 u4 u5 u6 u7 u8 u9 u10 u11 u12 : Value} (h : Box13 w b u0 u1 u2 u3 u4 u5 u6 u7 u8 u9 u10 u11 u12) (o : Obj) : Box13 (w.alloc o) b u0 u1 u2 u3 u4 u5 u6 u7 u8 u9 u10 u11 u12 := h.keep ((Below.refl _ _).alloc (Nat.le_refl _) _)
theorem Box13.other {w : World} {b : Nat} {u0 u1 u2 u3 u4 u5 u6 u7 u8 u9 u10 u11 u12 : Value} (h : Box13 w b u0 u1 u2 u3 u4 u5 u6 u7 u8 u9 u10 u11 u12) {b' o : Nat} (hp : b' ≠ b) (x : Value) : Box13 (w.setCell ⟨b', o, none⟩ x) b u0 u1 u2 u3 u4 u5 u6 u7 u8 u9 u10 u11 u12 :=
  ⟨(cell_elsewhere x (fun e => hp e.1.symm)).trans h.c0, (cell_elsewhere x (fun e => hp e.1.symm)).trans h.c1, (cell_elsewhere x (fun e => hp e.1.symm)).trans h.c2, (cell_elsewhere x (fun e => hp e.1.symm)).trans h.c3, (cell_elsewhere x (fun e => hp e.1.symm)).trans h.c4, (cell_elsewhere x (fun e => hp e.1.symm)).trans h.c5, (cell_elsewhere x (fun e => hp e.1.symm)).trans h.c6, (cell_elsewhere x (fun e => hp e.1.symm)).trans h.c7, (cell_elsewhere x (fun e => hp e.1.symm)).trans h.c8, (cell_elsewhere x (fun e => hp e.1.symm)).trans h.c9, (cell_elsewhere x (fun e => hp e.1.symm)).trans h.c10, (cell_elsewhere x (fun e => hp e.1.symm)).trans h.c11, (cell_elsewhere x (fun e => hp e.1.symm)).trans h.c12, fun o => by rw [World.frozen?_setCell]; exact h.fz o⟩
theorem Box13.set0 {w : World} {b : Nat} {u0 u1 u2 u3 u4 u5 u6 u7 u8 u9 u10 u11 u12 : Value} (h : Box13 w b u0 u1 u2 u3 u4 u5 u6 u7 u8 u9 u10 u11 u12) (x : Value) : Box13 (w.setCell ⟨b, 0, none⟩ x) b x u1 u2 u3 u4 u5 u6 u7 u8 u9 u10 u11 u12 :=
  ⟨World.cell?_setCell_same' _ _ _ (by rw [h.c0]; rfl), (cell_elsewhere x (by simp)).trans h.c1, (cell_elsewhere x (by simp)).trans h.c2, (cell_elsewhere x (by simp)).trans h.c3, (cell_elsewhere x (by simp)).trans h.c4, (cell_elsewhere x (by simp)).trans h.c5, (cell_elsewhere x (by simp)).trans h.c6, (cell_elsewhere x (by simp)).trans h.c7, (cell_elsewhere x (by simp)).trans h.c8, (cell_elsewhere x (by simp)).trans h.c9, (cell_elsewhere x (by simp)).trans h.c10, (cell_elsewhere x (by simp)).trans h.c11, (cell_elsewhere x (by simp)).trans h.c12, fun o => by rw [World.frozen?_setCell]; exact h.fz o⟩
theorem Box13.set1 {w : World} {b : Nat} {u0 u1 u2 u3 u4 u5 u6 u7 u8 u9 u10 u11 u12 : Value} (h : Box13 w b u0 u1 u2 u3 u4 u5 u6 u7 u8 u9 u10 u11 u12) (x : Value) : Box13 (w.setCell ⟨b, 1, none⟩ x) b u0 x u2 u3 u4 u5 u6 u7 u8 u9 u10 u11 u12 :=
  ⟨(cell_elsewhere x (by simp)).trans h.c0, World.cell?_setCell_same' _ _ _ (by rw [h.c1]; rfl), (cell_elsewhere x (by simp)).trans h.c2, (cell_elsewhere x (by simp)).trans h.c3, (cell_elsewhere x (by simp)).trans h.c4, (cell_elsewhere x (by simp)).trans h.c5, (cell_elsewhere x (by simp)).trans h.c6, (cell_elsewhere x (by simp)).trans h.c7, (cell_elsewhere x (by simp)).trans h.c8, (cell_elsewhere x (by simp)).trans h.c9, (cell_elsewhere x (by simp)).trans h.c10, (cell_elsewhere x (by simp)).trans h.c11, (cell_elsewhere x (by simp)).trans h.c12, fun o => by rw [World.frozen?_setCell]; exact h.fz o⟩
theorem Box13.set2 {w : World} {b : Nat} {u0 u1 u2 u3 u4 u5 u6 u7 u8 u9 u10 u11 u12 : Value} (h : Box13 w b u0 u1 u2 u3 u4 u5 u6 u7 u8 u9 u10 u11 u12) (x : Value) : Box13 (w.setCell ⟨b, 2, none⟩ x) b u0 u1 x u3 u4 u5 u6 u7 u8 u9 u10 u11 u12 :=
  ⟨(cell_elsewhere x (by simp)).trans h.c0, (cell_elsewhere x (by simp)).trans h.c1, World.cell?_setCell_same' _ _ _ (by rw [h.c2]; rfl), (cell_elsewhere x (by simp)).trans h.c3, (cell_elsewhere x (by simp)).trans h.c4, (cell_elsewhere x (by simp)).trans h.c5, (cell_elsewhere x (by simp)).trans h.c6, (cell_elsewhere x (by simp)).trans h.c7, (cell_elsewhere x (by simp)).trans h.c8, (cell_elsewhere x (by simp)).trans h.c9, (cell_elsewhere x (by simp)).trans h.c10, (cell_elsewhere x (by simp)).trans h.c11, (cell_elsewhere x (by simp)).trans h.c12, fun o => by rw [World.frozen?_setCell]; exact h.fz o⟩
theorem Box13.set3 {w : World} {b : Nat} {u0 u1 u2 u3 u4 u5 u6 u7 u8 u9 u10 u11 u12 : Value} (h : Box13 w b u0 u1 u2 u3 u4 u5 u6 u7 u8 u9 u10 u11 u12) (x : Value) : Box13 (w.setCell ⟨b, 3, none⟩ x) b u0 u1 u2 x u4 u5 u6 u7 u8 u9 u10 u11 u12 :=
  ⟨(cell_elsewhere x (by simp)).trans h.c0, (cell_elsewhere x (by simp)).trans h.c1, (cell_elsewhere x (by simp)).trans h.c2, World.cell?_setCell_same' _ _ _ (by rw [h.c3]; rfl), (cell_elsewhere x (by simp)).trans h.c4, (cell_elsewhere x (by simp)).trans h.c5, (cell_elsewhere x (by simp)).trans h.c6, (cell_elsewhere x (by simp)).trans h.c7, (cell_elsewhere x (by simp)).trans h.c8, (cell_elsewhere x (by simp)).trans h.c9, (cell_elsewhere x (by simp)).trans h.c10, (cell_elsewhere x (by simp)).trans h.c11, (cell_elsewhere x (by simp)).trans h.c12, fun o => by rw [World.frozen?_setCell]; exact h.fz o⟩
theorem Box13.set4 {w : World} {b : Nat} {u0 u1 u2 u3 u4 u5 u6 u7 u8 u9 u10 u11 u12 : Value} (h : Box13 w b u0 u1 u2 u3 u4 u5 u6 u7 u8 u9 u10 u11 u12) (x : Value) : Box13 (w.setCell ⟨b, 4, none⟩ x) b u0 u1 u2 u3 x u5 u6 u7 u8 u9 u10 u11 u12 :=
  ⟨(cell_elsewhere x (by simp)).trans h.c0, (cell_elsewhere x (by simp)).trans h.c1, (cell_elsewhere x (by simp)).trans h.c2, (cell_elsewhere x (by simp)).trans h.c3, World.cell?_setCell_same' _ _ _ (by rw [h.c4]; rfl), (cell_elsewhere x (by simp)).trans h.c5, (cell_elsewhere x (by simp)).trans h.c6, (cell_elsewhere x (by simp)).trans h.c7, (cell_elsewhere x (by simp)).trans h.c8, (cell_elsewhere x (by simp)).trans h.c9, (cell_elsewhere x (by simp)).trans h.c10, (cell_elsewhere x (by simp)).trans h.c11, (cell_elsewhere x (by simp)).trans h.c12, fun o => by rw [World.frozen?_setCell]; exact h.fz o⟩
theorem Box13.set5 {w : World} {b : Nat} {u0 u1 u2 u3 u4 u5 u6 u7 u8 u9 u10 u11 u12 : Value} (h : Box13 w b u0 u1 u2 u3 u4 u5 u6 u7 u8 u9 u10 u11 u12) (x : Value) : Box13 (w.setCell ⟨b, 5, none⟩ x) b u0 u1 u2 u3 u4 x u6 u7 u8 u9 u10 u11 u12 :=
  ⟨(cell_elsewhere x (by simp)).trans h.c0, (cell_elsewhere x (by simp)).trans h.c1, (cell_elsewhere x (by simp)).trans h.c2, (cell_elsewhere x (by simp)).trans h.c3, (cell_elsewhere x (by simp)).trans h.c4, World.cell?_setCell_same' _ _ _ (by rw [h.c5]; rfl), (cell_elsewhere x (by simp)).trans h.c6, (cell_elsewhere x (by simp)).trans h.c7, (cell_elsewhere x (by simp)).trans h.c8, (cell_elsewhere x (by simp)).trans h.c9, (cell_elsewhere x (by simp)).trans h.c10, (cell_elsewhere x (by simp)).trans h.c11, (cell_elsewhere x (by simp)).trans h.c12, fun o => by rw [World.frozen?_setCell]; exact h.fz o⟩
theorem Box13.set6 {w : World} {b : Nat} {u0 u1 u2 u3 u4 u5 u6 u7 u8 u9 u10 u11 u12 : Value} (h : Box13 w b u0 u1 u2 u3 u4 u5 u6 u7 u8 u9 u10 u11 u12) (x : Value) : Box13 (w.setCell ⟨b, 6, none⟩ x) b u0 u1 u2 u3 u4 u5 x u7 u8 u9 u10 u11 u12 :=
  ⟨(cell_elsewhere x (by simp)).trans h.c0, (cell_elsewhere x (by simp)).trans h.c1, (cell_elsewhere x (by simp)).trans h.c2, (cell_elsewhere x (by simp)).trans h.c3, (cell_elsewhere x (by simp)).trans h.c4, (cell_elsewhere x (by simp)).trans h.c5, World.cell?_setCell_same' _ _ _ (by rw [h.c6]; rfl), (cell_elsewhere x (by simp)).trans h.c7, (cell_elsewhere x (by simp)).trans h.c8, (cell_elsewhere x (by simp)).trans h.c9, (cell_elsewhere x (by simp)).trans h.c10, (cell_elsewhere x (by simp)).trans h.c11, (cell_elsewhere x (by simp)).trans h.c12, fun o => by rw [World.frozen?_setCell]; exact h.fz o⟩
theorem Box13.set7 {w : World} {b : Nat} {u0 u1 u2 u3 u4 u5 u6 u7 u8 u9 u10 u11 u12 : Value} (h : Box13 w b u0 u1 u2 u3 u4 u5 u6 u7 u8 u9 u10 u11 u12) (x : Value) : Box13 (w.setCell ⟨b, 7, none⟩ x) b u0 u1 u2 u3 u4 u5 u6 x u8 u9 u10 u11 u12 :=
  ⟨(cell_elsewhere x (by simp)).trans h.c0, (cell_elsewhere x (by simp)).trans h.c1, (cell_elsewhere x (by simp)).trans h.c2, (cell_elsewhere x (by simp)).trans h.c3, (cell_elsewhere x (by simp)).trans h.c4, (cell_elsewhere x (by simp)).trans h.c5, (cell_elsewhere x (by simp)).trans h.c6, World.cell?_setCell_same' _ _ _ (by rw [h.c7]; rfl), (cell_elsewhere x (by simp)).trans h.c8, (cell_elsewhere x (by simp)).trans h.c9, (cell_elsewhere x (by simp)).trans h.c10, (cell_elsewhere x (by simp)).trans h.c11, (cell_elsewhere x (by simp)).trans h.c12, fun o => by rw [World.frozen?_setCell]; exact h.fz o⟩
theorem Box13.set8 {w : World} {b : Nat} {u0 u1 u2 u3 u4 u5 u6 u7 u8 u9 u10 u11 u12 : Value} (h : Box13 w b u0 u1 u2 u3 u4 u5 u6 u7 u8 u9 u10 u11 u12) (x : Value) : Box13 (w.setCell ⟨b, 8, none⟩ x) b u0 u1 u2 u3 u4 u5 u6 u7 x u9 u10 u11 u12 :=
  ⟨(cell_elsewhere x (by simp)).trans h.c0, (cell_elsewhere x (by simp)).trans h.c1, (cell_elsewhere x (by simp)).trans h.c2, (cell_elsewhere x (by simp)).trans h.c3, (cell_elsewhere x (by simp)).trans h.c4, (cell_elsewhere x (by simp)).trans h.c5, (cell_elsewhere x (by simp)).trans h.c6, (cell_elsewhere x (by simp)).trans h.c7, World.cell?_setCell_same' _ _ _ (by rw [h.c8]; rfl), (cell_elsewhere x (by simp)).trans h.c9, (cell_elsewhere x (by simp)).trans h.c10, (cell_elsewhere x (by simp)).trans h.c11, (cell_elsewhere x (by simp)).trans h.c12, fun o => by rw [World.frozen?_setCell]; exact h.fz o⟩
theorem Box13.set9 {w : World} {b : Nat} {u0 u1 u2 u3 u4 u5 u6 u7 u8 u9 u10 u11 u12 : Value} (h : Box13 w b u0 u1 u2 u3 u4 u5 u6 u7 u8 u9 u10 u11 u12) (x : Value) : Box13 (w.setCell ⟨b, 9, none⟩ x) b u0 u1 u2 u3 u4 u5 u6 u7 u8 x u10 u11 u12 :=
  ⟨(cell_elsewhere x (by simp)).trans h.c0, (cell_elsewhere x (by simp)).trans h.c1, (cell_elsewhere x (by simp)).trans h.c2, (cell_elsewhere x (by simp)).trans h.c3, (cell_elsewhere x (by simp)).trans h.c4, (cell_elsewhere x (by simp)).trans h.c5, (cell_elsewhere x (by simp)).trans h.c6, (cell_elsewhere x (by simp)).trans h.c7, (cell_elsewhere x (by simp)).trans h.c8, World.cell?_setCell_same' _ _ _ (by rw [h.c9]; rfl), (cell_elsewhere x (by simp)).trans h.c10, (cell_elsewhere x (by simp)).trans h.c11, (cell_elsewhere x (by simp)).trans h.c12, fun o => by rw [World.frozen?_setCell]; exact h.fz o⟩
theorem Box13.set10 {w : World} {b : Nat} {u0 u1 u2 u3 u4 u5 u6 u7 u8 u9 u10 u11 u12 : Value} (h : Box13 w b u0 u1 u2 u3 u4 u5 u6 u7 u8 u9 u10 u11 u12) (x : Value) : Box13 (w.setCell ⟨b, 10, none⟩ x) b u0 u1 u2 u3 u4 u5 u6 u7 u8 u9 x u11 u12 :=
  ⟨(cell_elsewhere x (by simp)).trans h.c0, (cell_elsewhere x (by simp)).trans h.c1, (cell_elsewhere x (by simp)).trans h.c2, (cell_elsewhere x (by simp)).trans h.c3, (cell_elsewhere x (by simp)).trans h.c4, (cell_elsewhere x (by simp)).trans h.c5, (cell_elsewhere x (by simp)).trans h.c6, (cell_elsewhere x (by simp)).trans h.c7, (cell_elsewhere x (by simp)).trans h.c8, (cell_elsewhere x (by simp)).trans h.c9, World.cell?_setCell_same' _ _ _ (by rw [h.c10]; rfl), (cell_elsewhere x (by simp)).trans h.c11, (cell_elsewhere x (by simp)).trans h.c12, fun o => by rw [World.frozen?_setCell]; exact h.fz o⟩
theorem Box13.set11 {w : World} {b : Nat} {u0 u1 u2 u3 u4 u5 u6 u7 u8 u9 u10 u11 u12 : Value} (h : Box13 w b u0 u1 u2 u3 u4 u5 u6 u7 u8 u9 u10 u11 u12) (x : Value) : Box13 (w.setCell ⟨b, 11, none⟩ x) b u0 u1 u2 u3 u4 u5 u6 u7 u8 u9 u10 x u12 :=
  ⟨(cell_elsewhere x (by simp)).trans h.c0, (cell_elsewhere x (by simp)).trans h.c1, (cell_elsewhere x (by simp)).trans h.c2, (cell_elsewhere x (by simp)).trans h.c3, (cell_elsewhere x (by simp)).trans h.c4, (cell_elsewhere x (by simp)).trans h.c5, (cell_elsewhere x (by simp)).trans h.c6, (cell_elsewhere x (by simp)).trans h.c7, (cell_elsewhere x (by simp)).trans h.c8, (cell_elsewhere x (by simp)).trans h.c9, (cell_elsewhere x (by simp)).trans h.c10, World.cell?_setCell_same' _ _ _ (by rw [h.c11]; rfl), (cell_elsewhere x (by simp)).trans h.c12, fun o => by rw [World.frozen?_setCell]; exact h.fz o⟩
theorem Box13.set12 {w : World} {b : Nat} {u0 u1 u2 u3 u4 u5 u6 u7 u8 u9 u10 u11 u12 : Value} (h : Box13 w b u0 u1 u2 u3 u4 u5 u6 u7 u8 u9 u10 u11 u12) (x : Value) : Box13 (w.setCell ⟨b, 12, none⟩ x) b u0 u1 u2 u3 u4 u5 u6 u7 u8 u9 u10 u11 x :=
  ⟨(cell_elsewhere x (by simp)).trans h.c0, (cell_elsewhere x (by simp)).trans h.c1, (cell_elsewhere x (by simp)).trans h.c2, (cell_elsewhere x (by simp)).trans h.c3, (cell_elsewhere x (by simp)).trans h.c4, (cell_elsewhere x (by simp)).trans h.c5, (cell_elsewhere x (by simp)).trans h.c6, (cell_elsewhere x (by simp)).trans h.c7, (cell_elsewhere x (by simp)).trans h.c8, (cell_elsewhere x (by simp)).trans h.c9, (cell_elsewhere x (by simp)).trans h.c10, (cell_elsewhere x (by simp)).trans h.c11, World.cell?_setCell_same' _ _ _ (by rw [h.c12]; rfl), fun o => by rw [World.frozen?_setCell]; exact h.fz o⟩
theorem Box13.sets {w : World} {b : Nat} {u0 u1 u2 u3 u4 u5 u6 u7 u8 u9 u10 u11 u12 : Value} (h : Box13 w b u0 u1 u2 u3 u4 u5 u6 u7 u8 u9 u10 u11 u12) (x0 x1 x2 x3 x4 x5 x6 x7 x8 x9 x10 x11 x12 : Value) : Box13 (((((((((((((w.setCell ⟨b, 0, none⟩ x0).setCell ⟨b, 1, none⟩ x1).setCell ⟨b, 2, none⟩ x2).setCell ⟨b, 3, none⟩ x3).setCell ⟨b, 4, none⟩ x4).setCell ⟨b, 5, none⟩ x5).setCell ⟨b, 6, none⟩ x6).setCell ⟨b, 7, none⟩ x7).setCell ⟨b, 8, none⟩ x8).setCell ⟨b, 9, none⟩ x9).setCell ⟨b, 10, none⟩ x10).setCell ⟨b, 11, none⟩ x11).setCell ⟨b, 12, none⟩ x12) b x0 x1 x2 x3 x4 x5 x6 x7 x8 x9 x10 x11 x12 := (((((((((((((h.set0 x0).set1 x1).set2 x2).set3 x3).set4 x4).set5 x5).set6 x6).set7 x7).set8 x8).set9 x9).set10 x10).set11 x11).set12 x12)
theorem below_sets13 {B b : Nat} {a w : World} (h : Below B a w) (hB : B ≤ b) (x0 x1 x2 x3 x4 x5 x6 x7 x8 x9 x10 x11 x12 : Value) : Below B a (((((((((((((w.setCell ⟨b, 0, none⟩ x0).setCell ⟨b, 1, none⟩ x1).setCell ⟨b, 2, none⟩ x2).setCell ⟨b, 3, none⟩ x3).setCell ⟨b, 4, none⟩ x4).setCell ⟨b, 5, none⟩ x5).setCell ⟨b, 6, none⟩ x6).setCell ⟨b, 7, none⟩ x7).setCell ⟨b, 8, none⟩ x8).setCell ⟨b, 9, none⟩ x9).setCell ⟨b, 10, none⟩ x10).setCell ⟨b, 11, none⟩ x11).setCell ⟨b, 12, none⟩ x12) := (((((((((((((h.setCell (p := ⟨b, 0, none⟩) hB x0).setCell (p := ⟨b, 1, none⟩) hB x1).setCell (p := ⟨b, 2, none⟩) hB x2).setCell (p := ⟨b, 3, none⟩) hB x3).setCell (p := ⟨b, 4, none⟩) hB x4).setCell (p := ⟨b, 5, none⟩) hB x5).setCell (p := ⟨b, 6, none⟩) hB x6).setCell (p := ⟨b, 7, none⟩) hB x7).setCell (p := ⟨b, 8, none⟩) hB x8).setCell (p := ⟨b, 9, none⟩) hB x9).setCell (p := ⟨b, 10, none⟩) hB x10).setCell (p := ⟨b, 11, none⟩) hB x11).setCell (p := ⟨b, 12, none⟩) hB x12)
theorem cell_sets13 {w : World} {b b' o : Nat} (h : b' ≠ b) (x0 x1 x2 x3 x4 x5 x6 x7 x8 x9 x10 x11 x12 : Value) : (((((((((((((w.setCell ⟨b, 0, none⟩ x0).setCell ⟨b, 1, none⟩ x1).setCell ⟨b, 2, none⟩ x2).setCell ⟨b, 3, none⟩ x3).setCell ⟨b, 4, none⟩ x4).setCell ⟨b, 5, none⟩ x5).setCell ⟨b, 6, none⟩ x6).setCell ⟨b, 7, none⟩ x7).setCell ⟨b, 8, none⟩ x8).setCell ⟨b, 9, none⟩ x9).setCell ⟨b, 10, none⟩ x10).setCell ⟨b, 11, none⟩ x11).setCell ⟨b, 12, none⟩ x12).cell? ⟨b', o, none⟩ = w.cell? ⟨b', o, none⟩ := by
  iterate 13 rw [cell_elsewhere _ (fun e => h e.1)]
theorem size_sets13 (w : World) (b : Nat) (x0 x1 x2 x3 x4 x5 x6 x7 x8 x9 x10 x11 x12 : Value) : (((((((((((((w.setCell ⟨b, 0, none⟩ x0).setCell ⟨b, 1, none⟩ x1).setCell ⟨b, 2, none⟩ x2).setCell ⟨b, 3, none⟩ x3).setCell ⟨b, 4, none⟩ x4).setCell ⟨b, 5, none⟩ x5).setCell ⟨b, 6, none⟩ x6).setCell ⟨b, 7, none⟩ x7).setCell ⟨b, 8, none⟩ x8).setCell ⟨b, 9, none⟩ x9).setCell ⟨b, 10, none⟩ x10).setCell ⟨b, 11, none⟩ x11).setCell ⟨b, 12, none⟩ x12).heap.size = w.heap.size := by simp [World.setCell]
theorem ents_sets13 {w : World} {a : Option Addr} {len cap b : Nat} {L : List EntD} (h : EntsAt w a len cap L) (hx : ∀ x, a = some x → 0 < len → x.block ≠ b) (x0 x1 x2 x3 x4 x5 x6 x7 x8 x9 x10 x11 x12 : Value) : EntsAt (((((((((((((w.setCell ⟨b, 0, none⟩ x0).setCell ⟨b, 1, none⟩ x1).setCell ⟨b, 2, none⟩ x2).setCell ⟨b, 3, none⟩ x3).setCell ⟨b, 4, none⟩ x4).setCell ⟨b, 5, none⟩ x5).setCell ⟨b, 6, none⟩ x6).setCell ⟨b, 7, none⟩ x7).setCell ⟨b, 8, none⟩ x8).setCell ⟨b, 9, none⟩ x9).setCell ⟨b, 10, none⟩ x10).setCell ⟨b, 11, none⟩ x11).setCell ⟨b, 12, none⟩ x12) a len cap L := (((((((((((((h.setCell ⟨b, 0, none⟩ x0 hx).setCell ⟨b, 1, none⟩ x1 hx).setCell ⟨b, 2, none⟩ x2 hx).setCell ⟨b, 3, none⟩ x3 hx).setCell ⟨b, 4, none⟩ x4 hx).setCell ⟨b, 5, none⟩ x5 hx).setCell ⟨b, 6, none⟩ x6 hx).setCell ⟨b, 7, none⟩ x7 hx).setCell ⟨b, 8, none⟩ x8 hx).setCell ⟨b, 9, none⟩ x9 hx).setCell ⟨b, 10, none⟩ x10 hx).setCell ⟨b, 11, none⟩ x11 hx).setCell ⟨b, 12, none⟩ x12 hx)
end Go.Proofs.YtapjkbpfhmbfaaaGreatDoor
