/-
  What the document's l6Open makes of a store that is down, by a walk of its Go text.
  What the document's StoreOk answers, by a walk of its Go text.
  The law's measure of a store bounds its log too, by walks of its Go text.
-/
import Derived.Test.YtapjkbpfhmbfaaaGreatDoorSo47
namespace Go.Proofs.YtapjkbpfhmbfaaaGreatDoor
open Go.RowKit
set_option maxRecDepth 100000
set_option maxHeartbeats 8000000
theorem cell_nb {w : World} {X : Nat} {u : Bool} {p : Addr} {x v : Value} (hX : w.cell? ⟨X, 0, none⟩ = some (.bool u)) (h : w.cell? p = some x) (hx : ∀ b, x ≠ .bool b) : (w.setCell ⟨X, 0, none⟩ v).cell? p = some x := by
  by_cases e : (⟨X, 0, none⟩ : Addr) = p
  · subst e
    rw [hX] at h
    cases h
    exact absurd rfl (hx u)
  · rw [World.cell?_setCell_other _ _ _ _ e]; exact h
theorem ents_nb {w : World} {X : Nat} {u : Bool} {v : Value} {a : Option Addr} {n c : Nat} {L : List EntD} (hX : w.cell? ⟨X, 0, none⟩ = some (.bool u)) (h : EntsAt w a n c L) : EntsAt (w.setCell ⟨X, 0, none⟩ v) a n c L where
  length := h.length
  room := h.room
  big := h.big
  ents := h.ents
  nil := h.nil
  lies := fun x e hp => ⟨by have := (h.lies x e hp).1; simpa [World.setCell] using this, (h.lies x e hp).2⟩
  cells := fun x e i hi => by
    obtain ⟨h0, h1, h2, h3, h4⟩ := h.cells x e i hi
    exact ⟨cell_nb hX h0 (fun _ e => by cases e), cell_nb hX h1 (fun _ e => by cases e), cell_nb hX h2 (fun _ e => by cases e), cell_nb hX h3 (fun _ e => by cases e), cell_nb hX h4 (fun _ e => by cases e)⟩
theorem parts_nb {w : World} {X : Nat} {u : Bool} {v : Value} {a : Option Addr} {n c : Nat} {P : List (List EntD)} (hX : w.cell? ⟨X, 0, none⟩ = some (.bool u)) (h : PartsAt w a n c P) : PartsAt (w.setCell ⟨X, 0, none⟩ v) a n c P where
  length := h.length
  room := h.room
  big := h.big
  nil := h.nil
  lies := fun x e hp => ⟨by have := (h.lies x e hp).1; simpa [World.setCell] using this, (h.lies x e hp).2⟩
  lists := fun x e i hi => by
    obtain ⟨s, m, d, c0, hL⟩ := h.lists x e i hi
    exact ⟨s, m, d, cell_nb hX c0 (fun _ e => by cases e), ents_nb hX hL⟩
def OpD (lg : ByteArray) (sd : Int) (dv : Option Addr) (nd cd : Nat) (U : List (List RunD)) (w : World) (e : Ending) (w' : World) : Prop := ∃ (P : List (List EntD)) (k g N cg G cG : Nat) (T : ByteArray), Whole lg.data.toList P k ∧ T = ⟨(txP (leftP sd P)).toArray⟩ ∧ e = .returned (.agg #[.bool true, .int .i64 (lastQ sd P), .slice (some ⟨g, 0, none⟩) N cg, .slice (some ⟨G, 0, none⟩) nd cG, .slice none 0 0, .string T, .int .i64 (T.size : Int), .slice dv nd cd, .int .i64 sd]) ∧ EntsAt w' (some ⟨g, 0, none⟩) N cg (sortE (P.map (lateL sd)).flatten) ∧ LevelsIn 0 w' (some ⟨G, 0, none⟩) nd cG U ∧ Below w.heap.size w w'
theorem specOpen (lo : Nat) (up : Bool) (q : Int) (am av ak dv : Option Addr) (nm cm nv cv ns cs nd cd : Nat) (lg : ByteArray) (sf sd : Int) (U : List (List RunD)) (w : World) (hU : LevelsIn lo w dv nd cd U) (hlg : lg.size ≤ 1048576) (hnd : nd ≤ 100) (hS : ∀ B ∈ U, B.length ≤ 100 ∧ ∀ r ∈ B, 1 ≤ r.1.length ∧ r.1.length ≤ 10000) :
    Calls Tryz.prog 41 #[.agg #[.bool up, .int .i64 q, .slice am nm cm, .slice av nv cv, .slice ak ns cs, .string lg, .int .i64 sf, .slice dv nd cd, .int .i64 sd]] w (OpD lg sd dv nd cd U w) := by
  obtain ⟨X, hX⟩ := ex' w.heap.size
  obtain ⟨W, hW⟩ := ex' ((w.alloc (.cells #[.bool up, .int .i64 q, .slice am nm cm, .slice av nv cv, .slice ak ns cs, .string lg, .int .i64 sf, .slice dv nd cd, .int .i64 sd] 40)).alloc (.cells #[.bool false, .int .i64 0, .slice none 0 0, .slice none 0 0, .slice none 0 0, .string ⟨#[]⟩, .int .i64 0, .slice none 0 0, .int .i64 0] 40))
  have kW : Below w.heap.size w W := by rw [hW]; exact ((Below.refl _ _).alloc (Nat.le_refl _) _).alloc (by simp) _
  have bx : Box9 W X (.bool up) (.int .i64 q) (.slice am nm cm) (.slice av nv cv) (.slice ak ns cs) (.string lg) (.int .i64 sf) (.slice dv nd cd) (.int .i64 sd) := by rw [hW, hX]; exact (Box9.new _ _ _ _ _ _ _ _ _ _ _).alloc _
  have br : Box9 W (X + 1) (.bool false) (.int .i64 0) (.slice none 0 0) (.slice none 0 0) (.slice none 0 0) (.string ⟨#[]⟩) (.int .i64 0) (.slice none 0 0) (.int .i64 0) := by
    have := Box9.new (w.alloc (.cells #[.bool up, .int .i64 q, .slice am nm cm, .slice av nv cv, .slice ak ns cs, .string lg, .int .i64 sf, .slice dv nd cd, .int .i64 sd] 40)) 40 (.bool false) (.int .i64 0) (.slice none 0 0) (.slice none 0 0) (.slice none 0 0) (.string ⟨#[]⟩) (.int .i64 0) (.slice none 0 0) (.int .i64 0)
    rw [World.size_alloc] at this
    rw [hW, hX]
    exact this
  have HXW := hiD hX
  have HBX := hiD bx
  have HBR := hiD br
  have HKW := hiD kW
  have HU := hiD hU
  have HS := hiD hS
  have CR := specRd lg W hlg
  have x0 := bx.c0
  have x5 := bx.c5
  have xz := bx.lt
  clear kW bx br hU hS
  go_enter Tryz.func41, Tryz.ntmps41
  go_upto_region 1 with fail
  rw [← hX, ← hW]
  clear hX hW
  go_wp2_with fail
  refine CR.mono ?_
  rintro e w1 ⟨⟨P, k, g, n, c, rfl, hwh, hP⟩, hb1⟩
  have HWH := hiD hwh
  have hz : szP P ≤ 1048576 := by
    have h1 := (whole_txt hwh).2
    have h2 := whole_le hwh
    have h3 : lg.data.toList.length = lg.size := by rw [Array.length_toList]; rfl
    omega
  have hfl : P.flatten.length ≤ 1048576 := Nat.le_trans (flat_szP P) hz
  have CM := specMem (some ⟨g, 0, none⟩) n c P sd w1 hP hfl
  have HP1 := hiD hP
  have HZ := hiD hz
  have b1 := HBX.out.keep hb1
  have HB1 := hiD b1
  have HR1 := hiD (HBR.out.keep hb1)
  have K1 : Hid (Below w.heap.size w w1) := HKW.out.trans (hb1.mono HKW.out.size)
  have a0 := b1.c0
  have a8 := b1.c8
  have az := b1.lt
  clear hwh hP hb1 hz hfl CR x0 x5 xz b1 HBX HBR
  go_wp2_with fail
  refine CM.mono ?_
  rintro e w2 ⟨g2, cg, rfl, hO, hb2⟩
  obtain ⟨N, hN⟩ := ex' (P.map (lateL sd)).flatten.length
  rw [← hN] at hO ⊢
  have b2 := HB1.out.keep hb2
  have HB2 := hiD b2
  have HR2 := hiD (HR1.out.keep hb2)
  have K2 : Hid (Below w.heap.size w w2) := K1.out.trans (hb2.mono K1.out.size)
  have HG2 : Hid (g2 ≠ X ∧ g2 ≠ X + 1) := by
    have h1 := hO.lt.1
    have h2 := HB1.out.lt
    have h3 := HR1.out.lt
    exact ⟨by omega, by omega⟩
  have HM2 := hiD hO.entsAt
  have HP3 := hiD (parts_nb (v := .bool true) b2.c0 (HP1.out.keep hb2))
  have a0 := b2.c0
  have a8 := b2.c8
  have af := b2.fz
  have az := b2.lt
  clear hO hb2 hN CM b2 HB1 HR1 HP1
  go_upto_region 4 with fail
  obtain ⟨w3, hw3⟩ := ex' (w2.setCell ⟨X, 0, none⟩ (.bool true))
  rw [← hw3]
  rw [← hw3] at HP3
  have hx : w.heap.size ≤ X := by have := HXW.out; omega
  have hxx : X ≠ X + 1 := by omega
  have HX := hiD hx
  have HXX := hiD hxx
  have HB3 : Hid (Box9 w3 X (.bool true) (.int .i64 q) (.slice am nm cm) (.slice av nv cv) (.slice ak ns cs) (.string lg) (.int .i64 sf) (.slice dv nd cd) (.int .i64 sd)) := by rw [hw3]; exact HB2.out.set0 _
  have HR3 : Hid (Box9 w3 (X + 1) (.bool false) (.int .i64 0) (.slice none 0 0) (.slice none 0 0) (.slice none 0 0) (.string ⟨#[]⟩) (.int .i64 0) (.slice none 0 0) (.int .i64 0)) := by rw [hw3]; exact HR2.out.other hxx _
  have K3 : Hid (Below w.heap.size w w3) := by rw [hw3]; exact K2.out.setCell (p := ⟨X, 0, none⟩) hx _
  have HM3 : Hid (EntsAt w3 (some ⟨g2, 0, none⟩) N cg (sortE (P.map (lateL sd)).flatten)) := by rw [hw3]; exact HM2.out.setCell _ _ (fun x e _ => by cases e; exact HG2.out.1)
  have CL := specLeft (some ⟨g, 0, none⟩) n c P sd w3 HP3.out (whole_done HWH.out) HZ.out
  have a8 := HB3.out.c8
  have az := HB3.out.lt
  clear hw3 HB2 HR2 K2 HM2 a0 af hx hxx
  go_wp2_with fail
  refine CL.mono ?_
  rintro e w4 ⟨rfl, hb4⟩
  obtain ⟨T, hT⟩ : ∃ T : ByteArray, T = ⟨(txP (leftP sd P)).toArray⟩ := ⟨_, rfl⟩
  have HT := hiD hT
  rw [← hT]
  have b4 := HB3.out.keep hb4
  have HB4 := hiD b4
  have HR4 := hiD (HR3.out.keep hb4)
  have K4 : Hid (Below w.heap.size w w4) := K3.out.trans (hb4.mono K3.out.size)
  have HM4 := hiD (HM3.out.keep hb4)
  have a5 := b4.c5
  have a6 := b4.c6
  have a7 := b4.c7
  have af := b4.fz
  have az := b4.lt
  clear hb4 hT CL b4 HB3 HR3 K3 HM3 HP3 a8
  go_upto_region 6 with fail
  obtain ⟨w6, hw6⟩ := ex' ((w4.setCell ⟨X, 5, none⟩ (.string T)).setCell ⟨X, 6, none⟩ (.int .i64 (T.size : Int)))
  rw [← hw6]
  have HB6 : Hid (Box9 w6 X (.bool true) (.int .i64 q) (.slice am nm cm) (.slice av nv cv) (.slice ak ns cs) (.string T) (.int .i64 (T.size : Int)) (.slice dv nd cd) (.int .i64 sd)) := by rw [hw6]; exact (HB4.out.set5 _).set6 _
  have HR6 : Hid (Box9 w6 (X + 1) (.bool false) (.int .i64 0) (.slice none 0 0) (.slice none 0 0) (.slice none 0 0) (.string ⟨#[]⟩) (.int .i64 0) (.slice none 0 0) (.int .i64 0)) := by rw [hw6]; exact (HR4.out.other HXX.out _).other HXX.out _
  have K6 : Hid (Below w.heap.size w w6) := by rw [hw6]; exact (K4.out.setCell (p := ⟨X, 5, none⟩) HX.out _).setCell (p := ⟨X, 6, none⟩) HX.out _
  have HM6 : Hid (EntsAt w6 (some ⟨g2, 0, none⟩) N cg (sortE (P.map (lateL sd)).flatten)) := by rw [hw6]; exact (HM4.out.setCell _ _ (fun x e _ => by cases e; exact HG2.out.1)).setCell _ _ (fun x e _ => by cases e; exact HG2.out.1)
  have CC := specCopyLevels lo dv nd cd U w6 (HU.out.keep K6.out) hnd HS.out
  have a7 := HB6.out.c7
  have az := HB6.out.lt
  clear hw6 HB4 HR4 K4 HM4 a5 a6 af
  go_wp2_with fail
  refine CC.mono ?_
  rintro e w7 ⟨G, cG, rfl, hLG, hb7⟩
  have HL7 := hiD hLG.levelsIn
  have b7 := HB6.out.keep hb7
  have HB7 := hiD b7
  have r7 := HR6.out.keep hb7
  have HR7 := hiD r7
  have K7 : Hid (Below w.heap.size w w7) := K6.out.trans (hb7.mono K6.out.size)
  have HM7 := hiD (HM6.out.keep hb7)
  have HLO : Hid (X + 1 < w6.heap.size) := HR6.out.lt
  have a0 := b7.c0
  have a1 := b7.c1
  have a2 := b7.c2
  have a3 := b7.c3
  have a4 := b7.c4
  have a5 := b7.c5
  have a6 := b7.c6
  have a7 := b7.c7
  have a8 := b7.c8
  have af := b7.fz
  have az := b7.lt
  clear hLG hb7 CC b7 r7 HB6 HR6 K6 HM6
  go_upto_region 7 with fail
  obtain ⟨w8, hw8⟩ := ex' ((((w7.setCell ⟨X, 1, none⟩ (.int .i64 (lastQ sd P))).setCell ⟨X, 2, none⟩ (.slice (some ⟨g2, 0, none⟩) N cg)).setCell ⟨X, 3, none⟩ (.slice (some ⟨G, 0, none⟩) nd cG)).setCell ⟨X, 4, none⟩ (.slice none 0 0))
  rw [← hw8]
  have hxl : X < w6.heap.size := by have := HLO.out; omega
  have HB8 : Hid (Box9 w8 X (.bool true) (.int .i64 (lastQ sd P)) (.slice (some ⟨g2, 0, none⟩) N cg) (.slice (some ⟨G, 0, none⟩) nd cG) (.slice none 0 0) (.string T) (.int .i64 (T.size : Int)) (.slice dv nd cd) (.int .i64 sd)) := by rw [hw8]; exact (((HB7.out.set1 _).set2 _).set3 _).set4 _
  have HR8 : Hid (Box9 w8 (X + 1) (.bool false) (.int .i64 0) (.slice none 0 0) (.slice none 0 0) (.slice none 0 0) (.string ⟨#[]⟩) (.int .i64 0) (.slice none 0 0) (.int .i64 0)) := by rw [hw8]; exact (((HR7.out.other HXX.out _).other HXX.out _).other HXX.out _).other HXX.out _
  have K8 : Hid (Below w.heap.size w w8) := by rw [hw8]; exact (((K7.out.setCell (p := ⟨X, 1, none⟩) HX.out _).setCell (p := ⟨X, 2, none⟩) HX.out _).setCell (p := ⟨X, 3, none⟩) HX.out _).setCell (p := ⟨X, 4, none⟩) HX.out _
  have HM8 : Hid (EntsAt w8 (some ⟨g2, 0, none⟩) N cg (sortE (P.map (lateL sd)).flatten)) := by rw [hw8]; exact (((HM7.out.setCell _ _ (fun x e _ => by cases e; exact HG2.out.1)).setCell _ _ (fun x e _ => by cases e; exact HG2.out.1)).setCell _ _ (fun x e _ => by cases e; exact HG2.out.1)).setCell _ _ (fun x e _ => by cases e; exact HG2.out.1)
  have HL8 : Hid (LevelsIn w6.heap.size w8 (some ⟨G, 0, none⟩) nd cG U) := by rw [hw8]; exact (((HL7.out.same (Same.of_set _ _ hxl)).same (Same.of_set _ _ hxl)).same (Same.of_set _ _ hxl)).same (Same.of_set _ _ hxl)
  have b8 := HB8.out
  have r8 := HR8.out
  have a0 := b8.c0
  have a1 := b8.c1
  have a2 := b8.c2
  have a3 := b8.c3
  have a4 := b8.c4
  have a5 := b8.c5
  have a6 := b8.c6
  have a7 := b8.c7
  have a8 := b8.c8
  have az := b8.lt
  have r0 := r8.c0
  have r1 := r8.c1
  have r2 := r8.c2
  have r3 := r8.c3
  have r4 := r8.c4
  have r5 := r8.c5
  have r6 := r8.c6
  have r7 := r8.c7
  have r8' := r8.c8
  have rf := r8.fz
  have rz := r8.lt
  have hx1 : w.heap.size ≤ X + 1 := by have := HX.out; omega
  obtain ⟨w9, hw9⟩ : ∃ w9, w9 = (((((((((w8.setCell ⟨X + 1, 0, none⟩ (.bool true)).setCell ⟨X + 1, 1, none⟩ (.int .i64 (lastQ sd P))).setCell ⟨X + 1, 2, none⟩ (.slice (some ⟨g2, 0, none⟩) N cg)).setCell ⟨X + 1, 3, none⟩ (.slice (some ⟨G, 0, none⟩) nd cG)).setCell ⟨X + 1, 4, none⟩ (.slice none 0 0)).setCell ⟨X + 1, 5, none⟩ (.string T)).setCell ⟨X + 1, 6, none⟩ (.int .i64 (T.size : Int))).setCell ⟨X + 1, 7, none⟩ (.slice dv nd cd)).setCell ⟨X + 1, 8, none⟩ (.int .i64 sd)) := ⟨_, rfl⟩
  have HR9 : Hid (Box9 w9 (X + 1) (.bool true) (.int .i64 (lastQ sd P)) (.slice (some ⟨g2, 0, none⟩) N cg) (.slice (some ⟨G, 0, none⟩) nd cG) (.slice none 0 0) (.string T) (.int .i64 (T.size : Int)) (.slice dv nd cd) (.int .i64 sd)) := by rw [hw9]; exact (((((((((HR8.out.set0 _).set1 _).set2 _).set3 _).set4 _).set5 _).set6 _).set7 _).set8 _)
  have K9 : Hid (Below w.heap.size w w9) := by rw [hw9]; exact (((((((((K8.out.setCell (p := ⟨X + 1, 0, none⟩) hx1 _).setCell (p := ⟨X + 1, 1, none⟩) hx1 _).setCell (p := ⟨X + 1, 2, none⟩) hx1 _).setCell (p := ⟨X + 1, 3, none⟩) hx1 _).setCell (p := ⟨X + 1, 4, none⟩) hx1 _).setCell (p := ⟨X + 1, 5, none⟩) hx1 _).setCell (p := ⟨X + 1, 6, none⟩) hx1 _).setCell (p := ⟨X + 1, 7, none⟩) hx1 _).setCell (p := ⟨X + 1, 8, none⟩) hx1 _)
  have HM9 : Hid (EntsAt w9 (some ⟨g2, 0, none⟩) N cg (sortE (P.map (lateL sd)).flatten)) := by rw [hw9]; exact (((((((((HM8.out.setCell ⟨X + 1, 0, none⟩ (.bool true) (fun x e _ => by cases e; exact HG2.out.2)).setCell ⟨X + 1, 1, none⟩ (.int .i64 (lastQ sd P)) (fun x e _ => by cases e; exact HG2.out.2)).setCell ⟨X + 1, 2, none⟩ (.slice (some ⟨g2, 0, none⟩) N cg) (fun x e _ => by cases e; exact HG2.out.2)).setCell ⟨X + 1, 3, none⟩ (.slice (some ⟨G, 0, none⟩) nd cG) (fun x e _ => by cases e; exact HG2.out.2)).setCell ⟨X + 1, 4, none⟩ (.slice none 0 0) (fun x e _ => by cases e; exact HG2.out.2)).setCell ⟨X + 1, 5, none⟩ (.string T) (fun x e _ => by cases e; exact HG2.out.2)).setCell ⟨X + 1, 6, none⟩ (.int .i64 (T.size : Int)) (fun x e _ => by cases e; exact HG2.out.2)).setCell ⟨X + 1, 7, none⟩ (.slice dv nd cd) (fun x e _ => by cases e; exact HG2.out.2)).setCell ⟨X + 1, 8, none⟩ (.int .i64 sd) (fun x e _ => by cases e; exact HG2.out.2))
  have HL9 : Hid (LevelsIn 0 w9 (some ⟨G, 0, none⟩) nd cG U) := by rw [hw9]; exact LevelsIn.mono (((((((((HL8.out.same (Same.of_set _ _ HLO.out)).same (Same.of_set _ _ HLO.out)).same (Same.of_set _ _ HLO.out)).same (Same.of_set _ _ HLO.out)).same (Same.of_set _ _ HLO.out)).same (Same.of_set _ _ HLO.out)).same (Same.of_set _ _ HLO.out)).same (Same.of_set _ _ HLO.out)).same (Same.of_set _ _ HLO.out)) (Nat.zero_le _)
  have HW9 := hiD hw9
  clear hw8 hw9 b8 r8 HB7 HR7 K7 HM7 HL7 hxl hx1
  go_wp2
  rw [← HW9.out]
  refine bodyPost_ret (v := .agg #[.bool true, .int .i64 (lastQ sd P), .slice (some ⟨g2, 0, none⟩) N cg, .slice (some ⟨G, 0, none⟩) nd cG, .slice none 0 0, .string T, .int .i64 (T.size : Int), .slice dv nd cd, .int .i64 sd]) ?_ rfl ⟨P, k, g2, N, cg, G, cG, T, HWH.out, HT.out, rfl, HM9.out, HL9.out, K9.out⟩
  have e := HR9.out
  simp [results, Tryz.results41, go_sem, e.c0, e.c1, e.c2, e.c3, e.c4, e.c5, e.c6, e.c7, e.c8]
end Go.Proofs.YtapjkbpfhmbfaaaGreatDoor

namespace Go.Proofs.YtapjkbpfhmbfaaaGreatDoor
open Go.RowKit
set_option maxRecDepth 100000
set_option maxHeartbeats 8000000
theorem up_st {q : Int} {M : List EntD} {V : List (List RunD)} {S : List Int} {lg : ByteArray} {sd : Int} {U : List (List RunD)} {P : List (List EntD)} {k : Nat} (h0 : 0 ≤ sd) : upB q M V S lg sd U P k = (treeB q M V S && (decide (V = U) && logB k lg.size sd P q M)) := by
  have h1 := last_low sd P
  unfold upB logB
  rw [Bool.eq_iff_iff]
  simp only [Bool.and_eq_true, decide_eq_true_eq]
  constructor
  · rintro ⟨a, b, c, d, e, f, g⟩
    exact ⟨a, b.symm, e, g, f⟩
  · rintro ⟨a, b, e, g, f⟩
    exact ⟨a, b.symm, h0, by omega, e, f, g⟩
theorem disk_no {lg : ByteArray} {sf sd : Int} {U : List (List RunD)} (h : ¬ (treeB sd [] U [] = true ∧ lg.size ≤ 12000 ∧ 0 ≤ sf ∧ sf ≤ (lg.size : Int))) : diskB lg sf sd U = false := by
  cases e : diskB lg sf sd U with
  | false => rfl
  | true =>
    unfold diskB at e
    simp only [Bool.and_eq_true, decide_eq_true_eq] at e
    exact absurd e h
theorem disk_yes {lg : ByteArray} {sf sd : Int} {U : List (List RunD)} (h1 : treeB sd [] U [] = true) (h2 : lg.size ≤ 12000) (h3 : 0 ≤ sf) (h4 : sf ≤ (lg.size : Int)) : diskB lg sf sd U = true := by
  unfold diskB
  rw [h1, decide_eq_true h2, decide_eq_true h3, decide_eq_true h4]
  rfl
theorem open_up {lg T : ByteArray} {sd : Int} {U : List (List RunD)} {P : List (List EntD)} {k : Nat} {b : Bool} (hw : Whole lg.data.toList P k) (hT : T = ⟨(txP (leftP sd P)).toArray⟩) (h0 : 0 ≤ sd) (hb : ∀ P' k', Whole T.data.toList P' k' → b = upB (lastQ sd P) (sortE (P.map (lateL sd)).flatten) U [] T sd U P' k') : b = treeB (lastQ sd P) (sortE (P.map (lateL sd)).flatten) U [] := by
  have hd := whole_done hw
  have hT2 : T.data.toList = txP (leftP sd P) := by rw [hT]
  have h1 := hb (leftP sd P) (szP (leftP sd P)) (by rw [hT2]; exact whole_of _ (left_done hd))
  have h2 : szP (leftP sd P) = T.size := by rw [← txP_len, ← hT2, Array.length_toList]; rfl
  rw [h1, up_st h0]
  unfold logB
  rw [h2, last_left sd P hd, late_left sd P hd]
  simp
theorem specStoreOk (up : Bool) (q : Int) (am av ak dv : Option Addr) (nm cm nv cv ns cs nd cd : Nat) (M : List EntD) (V : List (List RunD)) (S : List Int) (lg : ByteArray) (sf sd : Int) (U : List (List RunD)) (w : World) (hT : TreeIn 0 w am nm cm av nv cv ak ns cs M V S) (hU : LevelsIn 0 w dv nd cd U) (hlg : lg.size ≤ 1048576) :
    Calls Tryz.prog 12 #[.agg #[.bool up, .int .i64 q, .slice am nm cm, .slice av nv cv, .slice ak ns cs, .string lg, .int .i64 sf, .slice dv nd cd, .int .i64 sd]] w (SoE up q M V S lg sf sd U w) := by
  obtain ⟨X, hX⟩ := ex' w.heap.size
  obtain ⟨W, hW⟩ := ex' (w.alloc (.cells #[.bool up, .int .i64 q, .slice am nm cm, .slice av nv cv, .slice ak ns cs, .string lg, .int .i64 sf, .slice dv nd cd, .int .i64 sd] 40))
  have kW : Below w.heap.size w W := by rw [hW]; exact (Below.refl _ _).alloc (Nat.le_refl _) _
  have bx : Box9 W X (.bool up) (.int .i64 q) (.slice am nm cm) (.slice av nv cv) (.slice ak ns cs) (.string lg) (.int .i64 sf) (.slice dv nd cd) (.int .i64 sd) := by rw [hW, hX]; exact Box9.new _ _ _ _ _ _ _ _ _ _ _
  have HBX := hiD bx
  have HKW := hiD kW
  have HT := hiD (hT.keep kW)
  have HU := hiD (hU.keep kW)
  obtain ⟨TB, hTB⟩ := ex' (treeB sd [] U [])
  have HTB := hiD hTB
  have CT := specTreeOk 0 sd none dv none 0 0 nd cd 0 0 [] U [] W ⟨⟨ents_nil W _, fun _ _ hp => absurd hp (Nat.lt_irrefl _)⟩, HU.out, ints_nil 0 W _⟩
  rw [← hTB] at CT
  have x0 := bx.c0
  have x5 := bx.c5
  have x6 := bx.c6
  have x7 := bx.c7
  have x8 := bx.c8
  have xz := bx.lt
  clear kW bx hT hU hTB
  go_enter Tryz.func12, Tryz.ntmps12
  go_upto_region 1 with fail
  rw [← hX, ← hW]
  clear hX hW
  by_cases e1 : lg.size ≤ 12000
  case neg =>
    have e1I : (lg.size : Int) > 12000 := by omega
    have hd := hiD (disk_no (lg := lg) (sf := sf) (sd := sd) (U := U) (fun h => e1 h.2.1))
    clear CT
    go_wp2
    go_ret
    exact ⟨false, rfl, fun P k _ => by unfold stB; rw [hd.out]; rfl, HKW.out⟩
  have e1I : ¬ (lg.size : Int) > 12000 := by omega
  by_cases e2 : sf < 0
  · have hd := hiD (disk_no (lg := lg) (sf := sf) (sd := sd) (U := U) (fun h => by have := h.2.2.1; omega))
    clear CT
    go_wp2
    go_ret
    exact ⟨false, rfl, fun P k _ => by unfold stB; rw [hd.out]; rfl, HKW.out⟩
  by_cases e3 : sf > (lg.size : Int)
  · have hd := hiD (disk_no (lg := lg) (sf := sf) (sd := sd) (U := U) (fun h => by have := h.2.2.2; omega))
    clear CT
    go_wp2
    go_ret
    exact ⟨false, rfl, fun P k _ => by unfold stB; rw [hd.out]; rfl, HKW.out⟩
  go_wp2_with fail
  refine CT.mono ?_
  rintro e w1 ⟨rfl, hb1⟩
  have K1 : Hid (Below w.heap.size w w1) := HKW.out.trans (hb1.mono HKW.out.size)
  have KB1 := hiD hb1
  have b1 := HBX.out.keep hb1
  have y0 := b1.c0
  have y1 := b1.c1
  have y2 := b1.c2
  have y3 := b1.c3
  have y4 := b1.c4
  have y5 := b1.c5
  have y6 := b1.c6
  have y7 := b1.c7
  have y8 := b1.c8
  have yz := b1.lt
  have HHT := hiD (HT.out.keep hb1)
  have HHU := hiD (HU.out.keep hb1)
  clear hb1 CT b1 x0 x5 x6 x7 x8 xz
  cases hTv : TB with
  | false =>
    rw [hTv] at HTB
    have hd := hiD (disk_no (lg := lg) (sf := sf) (sd := sd) (U := U) (fun h => by rw [← HTB.out] at h; exact Bool.noConfusion h.1))
    go_wp2
    go_ret
    exact ⟨false, rfl, fun P k _ => by unfold stB; rw [hd.out]; rfl, K1.out⟩
  | true =>
    rw [hTv] at HTB
    have HD := hiD (disk_yes (lg := lg) (sf := sf) (sd := sd) (U := U) HTB.out.symm e1 (by omega) (by omega))
    have h0 : 0 ≤ sd := (tree_parts HTB.out.symm).1
    have H0 := hiD h0
    obtain ⟨p1, p2, p3, p4, p5, p6, p7, p8, p9⟩ := tree_parts HTB.out.symm
    have HUL : Hid (nd ≤ 100) := by have := HU.out.length; show nd ≤ 100; omega
    have HUS : Hid (∀ B ∈ U, B.length ≤ 100 ∧ ∀ r ∈ B, 1 ≤ r.1.length ∧ r.1.length ≤ 10000) := by
      show ∀ B ∈ U, _
      match U, p6, p8 with
      | [A, B, C], _, h8 =>
        unfold levelsB at h8
        simp only [Bool.and_eq_true] at h8
        intro Z hZ
        simp only [List.mem_cons, List.not_mem_nil, or_false] at hZ
        rcases hZ with rfl | rfl | rfl
        · exact runs_small h8.1 (by omega)
        · exact runs_small h8.2.1 (by omega)
        · exact runs_small h8.2.2 (by omega)
    clear hTv p1 p2 p3 p4 p5 p6 p7 p8 p9 h0 e1 e1I e2 e3
    cases up with
    | true =>
      have CU := specUp 0 true q am av ak dv nm cm nv cv ns cs nd cd M V S lg sf sd U w1 HHT.out HHU.out hlg
      go_wp2_with fail
      refine CU.mono ?_
      rintro e w2 ⟨b, rfl, hb, hb2⟩
      have HR : Hid (∀ P k, Whole lg.data.toList P k → b = stB true q M V S lg sf sd U P k) := fun P k hw => by
        rw [hb P k hw, up_st H0.out]
        unfold stB
        rw [HD.out]
        rfl
      have K2 : Hid (Below w.heap.size w w2) := K1.out.trans (hb2.mono K1.out.size)
      clear hb hb2 CU y0 y1 y2 y3 y4 y5 y6 y7 y8 yz
      go_wp2
      go_ret
      exact ⟨b, rfl, HR.out, K2.out⟩
    | false =>
      have CS := specTreeSame q 0 0 0 am av ak nm cm nv cv ns cs none none none 0 0 0 0 0 0 M V S [] [] [] w1 HHT.out (tree_nil 0 w1)
      obtain ⟨TS, hTS⟩ := ex' (treeSameB q M V S 0 [] [] [])
      have HTS := hiD hTS
      rw [← hTS] at CS
      clear hTS
      go_wp2_with fail
      refine CS.mono ?_
      rintro e w2 ⟨rfl, hb2⟩
      have K2 : Hid (Below w.heap.size w w2) := K1.out.trans (hb2.mono K1.out.size)
      have b2 := (HBX.out.keep KB1.out).keep hb2
      have HU2 := hiD (HHU.out.keep hb2)
      have z0 := b2.c0
      have z1 := b2.c1
      have z2 := b2.c2
      have z3 := b2.c3
      have z4 := b2.c4
      have z5 := b2.c5
      have z6 := b2.c6
      have z7 := b2.c7
      have z8 := b2.c8
      have zz := b2.lt
      clear hb2 CS b2 y0 y1 y2 y3 y4 y5 y6 y7 y8 yz
      cases hSv : TS with
      | false =>
        rw [hSv] at HTS
        clear hSv
        go_wp2
        go_ret
        exact ⟨false, rfl, fun P k _ => by unfold stB; rw [HD.out, ← HTS.out]; rfl, K2.out⟩
      | true =>
        rw [hSv] at HTS
        clear hSv
        have CO := specOpen 0 false q am av ak dv nm cm nv cv ns cs nd cd lg sf sd U w2 HU2.out hlg HUL.out HUS.out
        go_wp2_with fail
        refine CO.mono ?_
        rintro e w3 ⟨P, k, g, N, cg, G, cG, T, hwh, hT, rfl, hEn, hLv, hb3⟩
        have K3 : Hid (Below w.heap.size w w3) := K2.out.trans (hb3.mono K2.out.size)
        have hTz : T.size ≤ 1048576 := by
          have h1 := (whole_txt hwh).2
          have h2 := whole_le hwh
          have h3 : lg.data.toList.length = lg.size := by rw [Array.length_toList]; rfl
          have h4 := left_size sd P
          have h5 : T.size = (txP (leftP sd P)).length := by rw [hT]; simp [ByteArray.size]
          rw [txP_len] at h5
          omega
        have CU := specUp 0 true (lastQ sd P) (some ⟨g, 0, none⟩) (some ⟨G, 0, none⟩) none dv N cg nd cG 0 0 nd cd (sortE (P.map (lateL sd)).flatten) U [] T (T.size : Int) sd U w3 ⟨⟨hEn, fun _ _ _ => Nat.zero_le _⟩, hLv, ints_nil 0 w3 _⟩ (HU2.out.keep hb3) hTz
        have HWH := hiD hwh
        have HTT := hiD hT
        clear hwh hT hEn hLv hb3 hTz CO z0 z1 z2 z3 z4 z5 z6 z7 z8 zz
        go_wp2_with fail
        refine CU.mono ?_
        rintro e w4 ⟨b, rfl, hb, hb4⟩
        have HR : Hid (∀ P' k', Whole lg.data.toList P' k' → b = stB false q M V S lg sf sd U P' k') := fun P' k' hw => by
          obtain ⟨rfl, rfl⟩ := whole_inj HWH.out hw
          rw [open_up HWH.out HTT.out H0.out hb]
          unfold stB
          rw [HD.out, ← HTS.out]
          rfl
        have K4 : Hid (Below w.heap.size w w4) := K3.out.trans (hb4.mono K3.out.size)
        clear hb hb4 CU
        go_wp2
        go_ret
        exact ⟨b, rfl, HR.out, K4.out⟩
end Go.Proofs.YtapjkbpfhmbfaaaGreatDoor

namespace Go.Proofs.YtapjkbpfhmbfaaaGreatDoor
open Go.RowKit
set_option maxRecDepth 100000
set_option maxHeartbeats 800000
theorem szDisk_lg (lo : Nat) (lg : ByteArray) (sf sd : Int) (d : Option Addr) (nd cd : Nat) (U : List (List RunD)) (left : Int) (w : World) (h : LevelsIn lo w d nd cd U) (hl : lg.size ≤ maxLen) (h0 : 0 ≤ left) (h1 : left ≤ 1048576) :
    Calls Tryz.prog 37 #[.agg #[.string lg, .int .i64 sf, .slice d nd cd, .int .i64 sd], .int .i64 left] w fun e w' => ∃ r : Int, e = .returned (.int .i64 r) ∧ (r = -1 ∨ (0 ≤ r ∧ r ≤ left ∧ SmallV U ∧ lg.size ≤ 1048576)) ∧ Below w.heap.size w w' := by
  unfold maxLen at hl
  obtain ⟨W, hW⟩ : ∃ W, W = w.alloc (.cells #[.string lg, .int .i64 sf, .slice d nd cd, .int .i64 sd] 28) := ⟨_, rfl⟩
  have hB : Below w.heap.size w W := by rw [hW]; exact (Below.refl _ _).alloc (Nat.le_refl _) _
  have H1 : Hid (LevelsIn lo W d nd cd U) := h.keep hB
  have HB : Hid (Below w.heap.size w W) := hB
  clear h hB
  have wl : IntKind.i64.wrap (left - (lg.size : Int)) = left - (lg.size : Int) := by rw [IntWalk.i64_left]; unfold wrap64; omega
  go_enter Tryz.func37, Tryz.ntmps37
  by_cases hs : left - (lg.size : Int) < 0
  · go_wp2
    go_ret
    rw [← hW]
    exact ⟨-1, rfl, Or.inl rfl, HB.out⟩
  go_wp2_with fail
  rw [← hW]
  clear hW
  refine (szRunSS_any lo _ _ _ U _ _ H1.out (by omega) (by omega)).mono ?_
  rintro e w2 ⟨r2, rfl, hr2, hb2⟩
  have K2 : Hid (Below W.heap.size W w2) := hb2
  clear hb2
  rcases hr2 with rfl | ⟨a2, b2, c2⟩
  · go_wp2
    go_ret
    exact ⟨-1, rfl, Or.inl rfl, HB.out.trans (K2.out.mono HB.out.size)⟩
  · have C2 : Hid (SmallV U) := c2
    clear c2
    go_wp2
    go_ret
    exact ⟨r2, rfl, Or.inr ⟨a2, by omega, C2.out, by omega⟩, HB.out.trans (K2.out.mono HB.out.size)⟩
theorem szStore_lg (lo : Nat) (up : Bool) (q : Int) (m : Option Addr) (nm cm : Nat) (v : Option Addr) (nv cv : Nat) (k : Option Addr) (ns cs : Nat) (lg : ByteArray) (sf : Int) (d : Option Addr) (nd cd : Nat) (sd : Int) (M : List EntD) (V : List (List RunD)) (S : List Int) (U : List (List RunD)) (left : Int) (w : World) (h : StoreIn lo w m nm cm v nv cv k ns cs d nd cd M V S U) (hl : lg.size ≤ maxLen) (h0 : 0 ≤ left) (h1 : left ≤ 1048576) :
    Calls Tryz.prog 11 #[.agg #[.bool up, .int .i64 q, .slice m nm cm, .slice v nv cv, .slice k ns cs, .string lg, .int .i64 sf, .slice d nd cd, .int .i64 sd], .int .i64 left] w fun e w' => ∃ r : Int, e = .returned (.int .i64 r) ∧ (r = -1 ∨ (0 ≤ r ∧ r ≤ left ∧ SmallS M V S U ∧ lg.size ≤ 1048576)) ∧ Below w.heap.size w w' := by
  obtain ⟨W, hW⟩ : ∃ W, W = w.alloc (.cells #[.bool up, .int .i64 q, .slice m nm cm, .slice v nv cv, .slice k ns cs, .string lg, .int .i64 sf, .slice d nd cd, .int .i64 sd] 30) := ⟨_, rfl⟩
  have hB : Below w.heap.size w W := by rw [hW]; exact (Below.refl _ _).alloc (Nat.le_refl _) _
  have bx : Box9 W w.heap.size (.bool up) (.int .i64 q) (.slice m nm cm) (.slice v nv cv) (.slice k ns cs) (.string lg) (.int .i64 sf) (.slice d nd cd) (.int .i64 sd) := by rw [hW]; exact Box9.new _ _ _ _ _ _ _ _ _ _ _
  have H1 : Hid (StoreIn lo W m nm cm v nv cv k ns cs d nd cd M V S U) := h.keep hB
  have HB : Hid (Below w.heap.size w W) := hB
  have HX : Hid (Box9 W w.heap.size (.bool up) (.int .i64 q) (.slice m nm cm) (.slice v nv cv) (.slice k ns cs) (.string lg) (.int .i64 sf) (.slice d nd cd) (.int .i64 sd)) := bx
  clear h hB bx
  go_enter Tryz.func11, Tryz.ntmps11
  go_wp2_with fail
  rw [← hW]
  clear hW
  refine (szTree_any _ lo _ _ _ _ _ _ _ _ _ M V S _ _ H1.out.tree h0 h1).mono ?_
  rintro e w1 ⟨r1, rfl, hr1, hb1⟩
  have x5 := (HX.out.keep hb1).c5
  have x6 := (HX.out.keep hb1).c6
  have x7 := (HX.out.keep hb1).c7
  have x8 := (HX.out.keep hb1).c8
  have xz := (HX.out.keep hb1).lt
  have K1 : Hid (Below W.heap.size W w1) := hb1
  clear hb1
  rcases hr1 with rfl | ⟨a1, b1, c1⟩
  · go_wp2
    go_ret
    exact ⟨-1, rfl, Or.inl rfl, HB.out.trans (K1.out.mono HB.out.size)⟩
  have C1 : Hid (SmallT M V S) := c1
  clear c1
  go_wp2_with fail
  refine (szDisk_lg lo lg sf sd d nd cd U _ _ (H1.out.keep K1.out).disk hl a1 (by omega)).mono ?_
  rintro e w2 ⟨r2, rfl, hr2, hb2⟩
  have K2 : Hid (Below W.heap.size W w2) := K1.out.trans (hb2.mono K1.out.size)
  clear hb2 K1
  rcases hr2 with rfl | ⟨a2, b2, c2, c3⟩
  · go_wp2
    go_ret
    exact ⟨-1, rfl, Or.inl rfl, HB.out.trans (K2.out.mono HB.out.size)⟩
  · have C2 : Hid (SmallV U) := c2
    clear c2
    go_wp2
    go_ret
    exact ⟨r2, rfl, Or.inr ⟨a2, by omega, ⟨C1.out, C2.out⟩, c3⟩, HB.out.trans (K2.out.mono HB.out.size)⟩
end Go.Proofs.YtapjkbpfhmbfaaaGreatDoor
