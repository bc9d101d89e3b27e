/-
  What the program's shareStore and StoreOk tell of a store, by walks of their Go text.
-/
import Derived.Test.YtapjkbpfhmbfaaaGreatDoorSo43
namespace Go.Proofs.YtapjkbpfhmbfaaaGreatDoor
open Go.RowKit
set_option maxRecDepth 100000
set_option maxHeartbeats 16000000
theorem tree_nil (lo : Nat) (w : World) : TreeIn lo w none 0 0 none 0 0 none 0 0 [] [] [] :=
  ⟨⟨ents_nil w _, fun _ _ hp => absurd hp (Nat.lt_irrefl _)⟩, ⟨rfl, Nat.le_refl _, Nat.zero_le _, fun _ => rfl, (fun _ _ h => absurd h (Nat.lt_irrefl _)), fun _ _ _ h => absurd h (Nat.not_lt_zero _)⟩, ints_nil lo w _⟩
def ShA (lo : Nat) (q : Int) (am : Option Addr) (nm cm : Nat) (ak : Option Addr) (ns cs : Nat) (M : List EntD) (V : List (List RunD)) (S : List Int) (w W : World) (e : Ending) (w' : World) : Prop := ∃ (z : Int) (vm vk : Option Addr) (mn mc kn kc : Nat) (a0 a1 a2 : Option Addr) (n0 c0 n1 c1 n2 c2 : Nat), e = .returned (.tuple #[.agg #[.int .i64 z, .slice vm mn mc, .slice a0 n0 c0, .slice a1 n1 c1, .slice a2 n2 c2, .slice vk kn kc], .bool (treeB q M V S)]) ∧ (treeB q M V S = true → q = z ∧ am = vm ∧ nm = mn ∧ cm = mc ∧ ak = vk ∧ ns = kn ∧ cs = kc ∧ Lv3 lo w a0 n0 c0 a1 n1 c1 a2 n2 c2 V) ∧ Below W.heap.size W w'
theorem shTreeA (lo : Nat) (q : Int) (am av ak : Option Addr) (nm cm nv cv ns cs : Nat) (M : List EntD) (V : List (List RunD)) (S : List Int) (w W : World) (hT : TreeIn lo w am nm cm av nv cv ak ns cs M V S) (k : Below w.heap.size w W) :
    Calls Tryz.prog 90 #[.agg #[.int .i64 q, .slice am nm cm, .slice av nv cv, .slice ak ns cs]] W (ShA lo q am nm cm ak ns cs M V S w W) := by
  have hU := hT.levels
  by_cases hn : nv = 3
  · subst hn
    obtain ⟨b, o, rfl, _⟩ := hU.form (by omega)
    obtain ⟨A, a0, n0, c0, hA, l0, hR0⟩ := hU.level (Below.refl _ w) 0 (by omega)
    obtain ⟨B, a1, n1, c1, hB, l1, hR1⟩ := hU.level (Below.refl _ w) 1 (by omega)
    obtain ⟨C, a2, n2, c2, hC, l2, hR2⟩ := hU.level (Below.refl _ w) 2 (by omega)
    have hL := hU.length
    have hV : V = [A, B, C] := by
      match V, hL with
      | [x, y, z], _ =>
        simp only [List.getElem?_cons_zero, List.getElem?_cons_succ, Option.some.injEq] at hA hB hC
        rw [hA, hB, hC]
    subst hV
    refine (implShare lo q am ak nm cm b o cv ns cs M A B C S a0 a1 a2 n0 c0 n1 c1 n2 c2 W (hT.mem.1.keep k) (hT.snaps.keep k) (hR0.keep k) (hR1.keep k) (hR2.keep k) (cell_later k (by simpa using l0)) (cell_later k l1) (cell_later k l2)).mono ?_
    rintro e w' ⟨rfl, hb⟩
    exact ⟨q, am, ak, nm, cm, ns, cs, a0, a1, a2, n0, c0, n1, c1, n2, c2, rfl, fun _ => ⟨rfl, rfl, rfl, rfl, rfl, rfl, rfl, A, B, C, rfl, hR0, hR1, hR2⟩, hb⟩
  · refine (implShareNo q am av ak nm cm nv cv ns cs W hn).mono ?_
    rintro e w' ⟨rfl, hb⟩
    have h0 : treeB q M V S = false := tree_no (fun h => hn (by
      have := (tree_parts h).2.2.2.2.2.1
      rw [hU.length] at this
      exact this))
    exact ⟨0, none, none, 0, 0, 0, 0, none, none, none, 0, 0, 0, 0, 0, 0, by rw [h0], (fun h => by rw [h0] at h; cases h), hb⟩
def stB (up : Bool) (q : Int) (M : List EntD) (V : List (List RunD)) (S : List Int) (lg : ByteArray) (sf sd : Int) (U : List (List RunD)) (P : List (List EntD)) (k : Nat) : Bool :=
  diskB lg sf sd U && (if up = true then treeB q M V S && (decide (V = U) && logB k lg.size sd P q M) else treeSameB q M V S 0 [] [] [] && treeB (lastQ sd P) (sortE (P.map (lateL sd)).flatten) U [])
def ShV (v : Value) : Prop := ∃ (u : Bool) (z z2 z3 : Int) (T : ByteArray) (p0 : Option Addr) (s0 t0 : Nat) (p1 : Option Addr) (s1 t1 : Nat) (p2 : Option Addr) (s2 t2 : Nat) (p3 : Option Addr) (s3 t3 : Nat) (p4 : Option Addr) (s4 t4 : Nat) (p5 : Option Addr) (s5 t5 : Nat) (p6 : Option Addr) (s6 t6 : Nat) (p7 : Option Addr) (s7 t7 : Nat), v = .agg #[.bool u, .int .i64 z, .slice p0 s0 t0, .slice p1 s1 t1, .slice p2 s2 t2, .slice p3 s3 t3, .slice p4 s4 t4, .string T, .int .i64 z2, .slice p5 s5 t5, .slice p6 s6 t6, .slice p7 s7 t7, .int .i64 z3]
def ShQ (lo : Nat) (up : Bool) (q : Int) (am : Option Addr) (nm cm : Nat) (ak : Option Addr) (ns cs : Nat) (M : List EntD) (V : List (List RunD)) (S : List Int) (lg : ByteArray) (sf sd : Int) (U : List (List RunD)) (w : World) (e : Ending) (w' : World) : Prop := ∃ (v : Value) (b : Bool), e = .returned (.tuple #[v, .bool b]) ∧ ShV v ∧ (∀ P k, Whole lg.data.toList P k → b = stB up q M V S lg sf sd U P k) ∧ Below w.heap.size w w' ∧
  (b = true → ∃ (a0 a1 a2 : Option Addr) (n0 c0 n1 c1 n2 c2 : Nat), Lv3 lo w' a0 n0 c0 a1 n1 c1 a2 n2 c2 U ∧ (up = false → v = .agg #[.bool false, .int .i64 0, .slice none 0 0, .slice none 0 0, .slice none 0 0, .slice none 0 0, .slice none 0 0, .string lg, .int .i64 sf, .slice a0 n0 c0, .slice a1 n1 c1, .slice a2 n2 c2, .int .i64 sd]) ∧ (up = true → ∃ (b0 b1 b2 : Option Addr) (m0 e0 m1 e1 m2 e2 : Nat), Lv3 lo w' b0 m0 e0 b1 m1 e1 b2 m2 e2 V ∧ v = .agg #[.bool true, .int .i64 q, .slice am nm cm, .slice b0 m0 e0, .slice b1 m1 e1, .slice b2 m2 e2, .slice ak ns cs, .string lg, .int .i64 sf, .slice a0 n0 c0, .slice a1 n1 c1, .slice a2 n2 c2, .int .i64 sd]))
theorem field_tree (LQ : Int) (g N : Nat) (a0 a1 a2 : Option Addr) (n0 c0 n1 c1 n2 c2 : Nat) (T : ByteArray) (sd : Int) (w : World) : (Instr.field 71 (.agg #[.bool true, .int .i64 LQ, .slice (some ⟨g, 0, none⟩) N N, .slice a0 n0 c0, .slice a1 n1 c1, .slice a2 n2 c2, .slice none 0 0, .string T, .int .i64 (T.size : Int), .slice a0 n0 c0, .slice a1 n1 c1, .slice a2 n2 c2, .int .i64 sd]) 1).run Tryz.prog w = .ok (.agg #[.int .i64 LQ, .slice (some ⟨g, 0, none⟩) N N, .slice a0 n0 c0, .slice a1 n1 c1, .slice a2 n2 c2, .slice none 0 0]) w := by
  simp [Instr.field, run_underlying Tryz.underlying71, go_sem, Tryz.isAgg67, Tryz.sizeOf67, part, asAgg]
theorem implShareStore (lo : Nat) (up : Bool) (q : Int) (am av ak dv : Option Addr) (nm cm nv cv ns cs nd cd : Nat) (M : List EntD) (V : List (List RunD)) (S : List Int) (lg : ByteArray) (sf sd : Int) (U : List (List RunD)) (w : World) (hT : TreeIn lo w am nm cm av nv cv ak ns cs M V S) (hU : LevelsIn lo w dv nd cd U) (hlg : lg.size ≤ 1048576) (hE : ErrB w.heap.size w) (hTB : TabB w.heap.size w) :
    Calls Tryz.prog 44 #[.agg #[.bool up, .int .i64 q, .slice am nm cm, .slice av nv cv, .slice ak ns cs, .string lg, .int .i64 sf, .slice dv nd cd, .int .i64 sd]] w (ShQ lo up q am nm cm ak ns cs M V S lg sf sd U w) := by
  obtain ⟨X, hX⟩ := ex' w.heap.size
  obtain ⟨W, hW⟩ := ex' ((w.alloc (.cells #[.bool up, .int .i64 q, .slice am nm cm, .slice av nv cv, .slice ak ns cs, .string lg, .int .i64 sf, .slice dv nd cd, .int .i64 sd] 40)).alloc (.cells #[.bool false, .int .i64 0, .slice none 0 0, .slice none 0 0, .slice none 0 0, .slice none 0 0, .slice none 0 0, .string ⟨#[]⟩, .int .i64 0, .slice none 0 0, .slice none 0 0, .slice none 0 0, .int .i64 0] 71))
  have kW : Below w.heap.size w W := by rw [hW]; exact ((Below.refl _ _).alloc (Nat.le_refl _) _).alloc (by simp) _
  have bx : Box9 W X (.bool up) (.int .i64 q) (.slice am nm cm) (.slice av nv cv) (.slice ak ns cs) (.string lg) (.int .i64 sf) (.slice dv nd cd) (.int .i64 sd) := by rw [hW, hX]; exact (Box9.new _ _ _ _ _ _ _ _ _ _ _).alloc _
  have br : Box13 W (X + 1) (.bool false) (.int .i64 0) (.slice none 0 0) (.slice none 0 0) (.slice none 0 0) (.slice none 0 0) (.slice none 0 0) (.string ⟨#[]⟩) (.int .i64 0) (.slice none 0 0) (.slice none 0 0) (.slice none 0 0) (.int .i64 0) := by
    have := Box13.new (w.alloc (.cells #[.bool up, .int .i64 q, .slice am nm cm, .slice av nv cv, .slice ak ns cs, .string lg, .int .i64 sf, .slice dv nd cd, .int .i64 sd] 40)) 71 (.bool false) (.int .i64 0) (.slice none 0 0) (.slice none 0 0) (.slice none 0 0) (.slice none 0 0) (.slice none 0 0) (.string ⟨#[]⟩) (.int .i64 0) (.slice none 0 0) (.slice none 0 0) (.slice none 0 0) (.int .i64 0)
    rw [World.size_alloc] at this
    rw [hW, hX]
    exact this
  have HXW := hiD hX
  have HBX := hiD bx
  have HBR := hiD br
  have HKW := hiD kW
  have HT := hiD hT
  have HU := hiD hU
  have HE := hiD hE
  have HTB := hiD hTB
  have CD := implShareDisk lo lg sf sd dv nd cd U w W hU kW
  have x5 := bx.c5
  have x6 := bx.c6
  have x7 := bx.c7
  have x8 := bx.c8
  have xz := bx.lt
  clear kW bx br hT hU hE hTB
  go_enter Tryz.func44, Tryz.ntmps44
  go_upto_region 1 with fail
  rw [← hX, ← hW]
  clear hX hW
  go_wp2_with fail
  refine CD.mono ?_
  rintro e w1 ⟨a0, a1, a2, n0, c0, n1, c1, n2, c2, rfl, hlv, hb1⟩
  obtain ⟨DB, hDB⟩ := ex' (diskB lg sf sd U)
  have HDB := hiD hDB
  rw [← hDB] at hlv ⊢
  have HB1 := hiD hb1
  have HLV := hiD hlv
  clear hlv hb1 hDB CD x5 x6 x7 x8 xz
  go_upto_region 2 with fail
  obtain ⟨w2, hw2⟩ := ex' (w1.alloc (.cells #[.string lg, .int .i64 sf, .slice a0 n0 c0, .slice a1 n1 c1, .slice a2 n2 c2, .int .i64 sd] 69))
  obtain ⟨Y, hY⟩ := ex' w1.heap.size
  have k2 : Below w1.heap.size w1 w2 := by rw [hw2]; exact (Below.refl _ _).alloc (Nat.le_refl _) _
  have HK2 : Hid (Below W.heap.size W w2) := HB1.out.trans (k2.mono HB1.out.size)
  have HBY : Hid (Box6 w2 Y (.string lg) (.int .i64 sf) (.slice a0 n0 c0) (.slice a1 n1 c1) (.slice a2 n2 c2) (.int .i64 sd)) := by rw [hw2, hY]; exact Box6.new _ _ _ _ _ _ _ _
  have HLV2 : Hid (DB = true → Lv3 lo w a0 n0 c0 a1 n1 c1 a2 n2 c2 U) := fun h => HLV.out h
  have HXL := hiD (HBX.out.keep HK2.out)
  have HRL := hiD (HBR.out.keep HK2.out)
  have HKK : Hid (Below w.heap.size w w2) := HKW.out.trans (HK2.out.mono HKW.out.size)
  rw [← hw2, ← hY]
  have hyx : Y ≠ X + 1 ∧ X ≠ X + 1 ∧ w.heap.size ≤ X + 1 ∧ X < Y := by
    have h1 := HBR.out.lt
    have h2 := HB1.out.size
    have h3 := HXW.out
    omega
  have HYX := hiD hyx
  clear hw2 hY k2 HB1 HLV HBX HBR hyx
  cases hDv : DB with
  | false =>
    rw [hDv] at HDB HLV2
    have hr := HRL.out
    have r0 := hr.c0
    have r1 := hr.c1
    have r2 := hr.c2
    have r3 := hr.c3
    have r4 := hr.c4
    have r5 := hr.c5
    have r6 := hr.c6
    have r7 := hr.c7
    have r8 := hr.c8
    have r9 := hr.c9
    have r10 := hr.c10
    have r11 := hr.c11
    have r12 := hr.c12
    have rf := hr.fz
    have rz := hr.lt
    clear hr hDv
    obtain ⟨wz, hwz⟩ : ∃ wz, wz = (((((((((((((w2.setCell ⟨X + 1, 0, none⟩ (.bool false)).setCell ⟨X + 1, 1, none⟩ (.int .i64 0)).setCell ⟨X + 1, 2, none⟩ (.slice none 0 0)).setCell ⟨X + 1, 3, none⟩ (.slice none 0 0)).setCell ⟨X + 1, 4, none⟩ (.slice none 0 0)).setCell ⟨X + 1, 5, none⟩ (.slice none 0 0)).setCell ⟨X + 1, 6, none⟩ (.slice none 0 0)).setCell ⟨X + 1, 7, none⟩ (.string ⟨#[]⟩)).setCell ⟨X + 1, 8, none⟩ (.int .i64 0)).setCell ⟨X + 1, 9, none⟩ (.slice none 0 0)).setCell ⟨X + 1, 10, none⟩ (.slice none 0 0)).setCell ⟨X + 1, 11, none⟩ (.slice none 0 0)).setCell ⟨X + 1, 12, none⟩ (.int .i64 0)) := ⟨_, rfl⟩
    have HRZ : Hid (Box13 wz (X + 1) (.bool false) (.int .i64 0) (.slice none 0 0) (.slice none 0 0) (.slice none 0 0) (.slice none 0 0) (.slice none 0 0) (.string ⟨#[]⟩) (.int .i64 0) (.slice none 0 0) (.slice none 0 0) (.slice none 0 0) (.int .i64 0)) := by rw [hwz]; exact HRL.out.sets (.bool false) (.int .i64 0) (.slice none 0 0) (.slice none 0 0) (.slice none 0 0) (.slice none 0 0) (.slice none 0 0) (.string ⟨#[]⟩) (.int .i64 0) (.slice none 0 0) (.slice none 0 0) (.slice none 0 0) (.int .i64 0)
    have HKZ : Hid (Below w.heap.size w wz) := by rw [hwz]; exact below_sets13 HKK.out HYX.out.2.2.1 (.bool false) (.int .i64 0) (.slice none 0 0) (.slice none 0 0) (.slice none 0 0) (.slice none 0 0) (.slice none 0 0) (.string ⟨#[]⟩) (.int .i64 0) (.slice none 0 0) (.slice none 0 0) (.slice none 0 0) (.int .i64 0)
    have HWZ := hiD hwz
    clear hwz
    go_wp2
    rw [← HWZ.out]
    refine bodyPost_ret (v := .tuple #[.agg #[.bool false, .int .i64 0, .slice none 0 0, .slice none 0 0, .slice none 0 0, .slice none 0 0, .slice none 0 0, .string ⟨#[]⟩, .int .i64 0, .slice none 0 0, .slice none 0 0, .slice none 0 0, .int .i64 0], .bool false]) ?_ rfl ⟨_, false, rfl, ⟨_, _, _, _, _, _, _, _, _, _, _, _, _, _, _, _, _, _, _, _, _, _, _, _, _, _, _, _, _, rfl⟩, fun P k _ => ?_, HKZ.out, fun h => by cases h⟩
    · have e := HRZ.out
      simp [results, Tryz.results44, go_sem, e.c0, e.c1, e.c2, e.c3, e.c4, e.c5, e.c6, e.c7, e.c8, e.c9, e.c10, e.c11, e.c12]
    · unfold stB
      rw [← HDB.out]
      rfl
  | true =>
    rw [hDv] at HDB HLV2
    clear hDv
    have HLV := hiD (HLV2.out rfl)
    clear HLV2
    have xl := HXL.out
    have x0 := xl.c0
    have x1 := xl.c1
    have x2 := xl.c2
    have x3 := xl.c3
    have x4 := xl.c4
    have xz := xl.lt
    have yl := HBY.out
    have y0 := yl.c0
    have y1 := yl.c1
    have y2 := yl.c2
    have y3 := yl.c3
    have y4 := yl.c4
    have y5 := yl.c5
    have yz := yl.lt
    clear xl yl
    cases up with
    | false =>
      go_upto_region 6 with fail
      clear x0 x1 x2 x3 x4 xz y0 y1 y2 y3 y4 y5 yz
      obtain ⟨w3, hw3⟩ := ex' (w2.alloc (.cells #[.bool false, .int .i64 0, .slice none 0 0, .slice none 0 0, .slice none 0 0, .slice none 0 0, .slice none 0 0, .string lg, .int .i64 sf, .slice a0 n0 c0, .slice a1 n1 c1, .slice a2 n2 c2, .int .i64 sd] 71))
      obtain ⟨Z, hZ⟩ := ex' w2.heap.size
      have k3 : Below w2.heap.size w2 w3 := by rw [hw3]; exact (Below.refl _ _).alloc (Nat.le_refl _) _
      have HBZ : Hid (Box13 w3 Z (.bool false) (.int .i64 0) (.slice none 0 0) (.slice none 0 0) (.slice none 0 0) (.slice none 0 0) (.slice none 0 0) (.string lg) (.int .i64 sf) (.slice a0 n0 c0) (.slice a1 n1 c1) (.slice a2 n2 c2) (.int .i64 sd)) := by rw [hw3, hZ]; exact Box13.new _ _ _ _ _ _ _ _ _ _ _ _ _ _ _
      have HXB := hiD (HXL.out.keep k3)
      have HRB := hiD (HRL.out.keep k3)
      have HLW := hiD HLV.out
      have K3 : Hid (Below w.heap.size w w3) := HKK.out.trans (k3.mono HKK.out.size)
      have hzx : Z ≠ X + 1 := by have := HRL.out.lt; omega
      have HZX := hiD hzx
      rw [← hw3, ← hZ]
      clear hw3 hZ k3 hzx HXL HRL HLV HBY
      have HMK : Hid (∀ w' : World, ((∀ o, w'.cell? ⟨X, o, none⟩ = w3.cell? ⟨X, o, none⟩) ∧ (∀ o, w'.cell? ⟨Z, o, none⟩ = w3.cell? ⟨Z, o, none⟩) ∧ w3.heap.size ≤ w'.heap.size) → (w'.cell? ⟨X, 1, none⟩ = some (.int .i64 q) ∧ w'.cell? ⟨X, 2, none⟩ = some (.slice am nm cm) ∧ w'.cell? ⟨X, 3, none⟩ = some (.slice av nv cv) ∧ w'.cell? ⟨X, 4, none⟩ = some (.slice ak ns cs) ∧ w'.cell? ⟨Z, 0, none⟩ = some (.bool false) ∧ w'.cell? ⟨Z, 1, none⟩ = some (.int .i64 0) ∧ w'.cell? ⟨Z, 2, none⟩ = some (.slice none 0 0) ∧ w'.cell? ⟨Z, 3, none⟩ = some (.slice none 0 0) ∧ w'.cell? ⟨Z, 4, none⟩ = some (.slice none 0 0) ∧ w'.cell? ⟨Z, 5, none⟩ = some (.slice none 0 0) ∧ w'.cell? ⟨Z, 6, none⟩ = some (.slice none 0 0) ∧ w'.cell? ⟨Z, 7, none⟩ = some (.string lg) ∧ w'.cell? ⟨Z, 8, none⟩ = some (.int .i64 sf) ∧ w'.cell? ⟨Z, 9, none⟩ = some (.slice a0 n0 c0) ∧ w'.cell? ⟨Z, 10, none⟩ = some (.slice a1 n1 c1) ∧ w'.cell? ⟨Z, 11, none⟩ = some (.slice a2 n2 c2) ∧ w'.cell? ⟨Z, 12, none⟩ = some (.int .i64 sd) ∧ X < w'.heap.size ∧ Z < w'.heap.size)) := fun w' k => ⟨(k.1 _).trans HXB.out.c1, (k.1 _).trans HXB.out.c2, (k.1 _).trans HXB.out.c3, (k.1 _).trans HXB.out.c4, (k.2.1 _).trans HBZ.out.c0, (k.2.1 _).trans HBZ.out.c1, (k.2.1 _).trans HBZ.out.c2, (k.2.1 _).trans HBZ.out.c3, (k.2.1 _).trans HBZ.out.c4, (k.2.1 _).trans HBZ.out.c5, (k.2.1 _).trans HBZ.out.c6, (k.2.1 _).trans HBZ.out.c7, (k.2.1 _).trans HBZ.out.c8, (k.2.1 _).trans HBZ.out.c9, (k.2.1 _).trans HBZ.out.c10, (k.2.1 _).trans HBZ.out.c11, (k.2.1 _).trans HBZ.out.c12, Nat.lt_of_lt_of_le HXB.out.lt k.2.2, Nat.lt_of_lt_of_le HBZ.out.lt k.2.2⟩
      have HSK : Hid (∀ w', Below w3.heap.size w3 w' → ((∀ o, w'.cell? ⟨X, o, none⟩ = w3.cell? ⟨X, o, none⟩) ∧ (∀ o, w'.cell? ⟨Z, o, none⟩ = w3.cell? ⟨Z, o, none⟩) ∧ w3.heap.size ≤ w'.heap.size)) := fun w' k => ⟨fun o => k.cell (p := ⟨X, o, none⟩) HXB.out.lt, fun o => k.cell (p := ⟨Z, o, none⟩) HBZ.out.lt, k.size⟩
      have k0 : Below w3.heap.size w3 w3.drew := (Below.refl _ w3).drew
      refine drw HMK (HSK.out _ k0) fun hHeld => ?_
      generalize w3.drew = wd at k0 hHeld ⊢
      refine tkr 0 4 hHeld ?_
      refine rd1 4 fun K hK => ?_
      go_simp
      refine (implTreeSame q 0 lo lo am av ak nm cm nv cv ns cs none none none 0 0 0 0 0 0 M V S [] [] [] wd ((HT.out.keep K3.out).keep k0) (tree_nil lo wd)).mono ?_
      obtain ⟨TS, hTS⟩ := ex' (treeSameB q M V S 0 [] [] [])
      have HTS := hiD hTS
      rw [← hTS]
      clear hTS
      rintro e w4 ⟨rfl, hb4⟩
      have K4 : Hid (Below w3.heap.size w3 w4) := k0.trans (hb4.mono k0.size)
      clear hb4
      go_wp2_with fail
      refine hK.out _ _ (HMK.out _ (HSK.out _ K4.out)) (fun hHeld => ?_)
      clear hK K
      (try go_frame)
      refine tkr 5 1 hHeld ?_
      cases hTSv : TS with
      | false =>
        rw [hTSv] at HTS
        clear hTSv
        refine tkr 6 5 hHeld ?_
        have hr := HRB.out.keep K4.out
        have r0 := hr.c0
        have r1 := hr.c1
        have r2 := hr.c2
        have r3 := hr.c3
        have r4 := hr.c4
        have r5 := hr.c5
        have r6 := hr.c6
        have r7 := hr.c7
        have r8 := hr.c8
        have r9 := hr.c9
        have r10 := hr.c10
        have r11 := hr.c11
        have r12 := hr.c12
        have rf := hr.fz
        have rz := hr.lt
        refine rd1 11 fun K hK => ?_
        obtain ⟨wz, hwz⟩ : ∃ wz, wz = (((((((((((((w4.setCell ⟨X + 1, 0, none⟩ (.bool false)).setCell ⟨X + 1, 1, none⟩ (.int .i64 0)).setCell ⟨X + 1, 2, none⟩ (.slice none 0 0)).setCell ⟨X + 1, 3, none⟩ (.slice none 0 0)).setCell ⟨X + 1, 4, none⟩ (.slice none 0 0)).setCell ⟨X + 1, 5, none⟩ (.slice none 0 0)).setCell ⟨X + 1, 6, none⟩ (.slice none 0 0)).setCell ⟨X + 1, 7, none⟩ (.string lg)).setCell ⟨X + 1, 8, none⟩ (.int .i64 sf)).setCell ⟨X + 1, 9, none⟩ (.slice a0 n0 c0)).setCell ⟨X + 1, 10, none⟩ (.slice a1 n1 c1)).setCell ⟨X + 1, 11, none⟩ (.slice a2 n2 c2)).setCell ⟨X + 1, 12, none⟩ (.int .i64 sd)) := ⟨_, rfl⟩
        have HRZ : Hid (Box13 wz (X + 1) (.bool false) (.int .i64 0) (.slice none 0 0) (.slice none 0 0) (.slice none 0 0) (.slice none 0 0) (.slice none 0 0) (.string lg) (.int .i64 sf) (.slice a0 n0 c0) (.slice a1 n1 c1) (.slice a2 n2 c2) (.int .i64 sd)) := by rw [hwz]; exact hr.sets (.bool false) (.int .i64 0) (.slice none 0 0) (.slice none 0 0) (.slice none 0 0) (.slice none 0 0) (.slice none 0 0) (.string lg) (.int .i64 sf) (.slice a0 n0 c0) (.slice a1 n1 c1) (.slice a2 n2 c2) (.int .i64 sd)
        have HKZ : Hid (Below w.heap.size w wz) := by rw [hwz]; exact below_sets13 (K3.out.trans ((K4.out).mono K3.out.size)) HYX.out.2.2.1 (.bool false) (.int .i64 0) (.slice none 0 0) (.slice none 0 0) (.slice none 0 0) (.slice none 0 0) (.slice none 0 0) (.string lg) (.int .i64 sf) (.slice a0 n0 c0) (.slice a1 n1 c1) (.slice a2 n2 c2) (.int .i64 sd)
        have hR := HSK.out _ (K4.out)
        have hRz : ((∀ o, wz.cell? ⟨X, o, none⟩ = w3.cell? ⟨X, o, none⟩) ∧ (∀ o, wz.cell? ⟨Z, o, none⟩ = w3.cell? ⟨Z, o, none⟩) ∧ w3.heap.size ≤ wz.heap.size) := ⟨fun o => by rw [hwz]; exact (cell_sets13 HYX.out.2.1 (.bool false) (.int .i64 0) (.slice none 0 0) (.slice none 0 0) (.slice none 0 0) (.slice none 0 0) (.slice none 0 0) (.string lg) (.int .i64 sf) (.slice a0 n0 c0) (.slice a1 n1 c1) (.slice a2 n2 c2) (.int .i64 sd)).trans (hR.1 o), fun o => by rw [hwz]; exact (cell_sets13 HZX.out (.bool false) (.int .i64 0) (.slice none 0 0) (.slice none 0 0) (.slice none 0 0) (.slice none 0 0) (.slice none 0 0) (.string lg) (.int .i64 sf) (.slice a0 n0 c0) (.slice a1 n1 c1) (.slice a2 n2 c2) (.int .i64 sd)).trans (hR.2.1 o), by rw [hwz, size_sets13]; exact hR.2.2⟩
        go_simp
        rw [← hwz]
        clear hr hwz hR r0 r1 r2 r3 r4 r5 r6 r7 r8 r9 r10 r11 r12 rf rz
        refine hK.out _ _ (HMK.out _ hRz) (fun hHeld => ?_)
        clear hK K hRz
        (try go_frame)
        refine tkr 12 1 hHeld ?_
        refine dN ?_
        go_wp2
        refine bodyPost_ret (v := .tuple #[.agg #[.bool false, .int .i64 0, .slice none 0 0, .slice none 0 0, .slice none 0 0, .slice none 0 0, .slice none 0 0, .string lg, .int .i64 sf, .slice a0 n0 c0, .slice a1 n1 c1, .slice a2 n2 c2, .int .i64 sd], .bool false]) ?_ rfl ⟨_, false, rfl, ⟨_, _, _, _, _, _, _, _, _, _, _, _, _, _, _, _, _, _, _, _, _, _, _, _, _, _, _, _, _, rfl⟩, fun P' k' hW' => ?_, HKZ.out, fun hb => ?_⟩
        · have e := HRZ.out
          simp [results, Tryz.results44, go_sem, e.c0, e.c1, e.c2, e.c3, e.c4, e.c5, e.c6, e.c7, e.c8, e.c9, e.c10, e.c11, e.c12]
        · unfold stB
          rw [← HDB.out, ← HTS.out]
          rfl
        · cases hb
      | true =>
        rw [hTSv] at HTS
        clear hTSv
        refine tkr 6 1 hHeld ?_
        refine rd1 7 fun K hK => ?_
        have hEd : ErrB w4.heap.size w4 := fun w' kk => HE.out w' ((K3.out.trans (K4.out.mono K3.out.size)).trans (kk.mono (Nat.le_trans K3.out.size K4.out.size)))
        have hTd : TabB w4.heap.size w4 := fun w' kk => HTB.out w' ((K3.out.trans (K4.out.mono K3.out.size)).trans (kk.mono (Nat.le_trans K3.out.size K4.out.size)))
        go_simp
        refine (implOpen _ _ _ _ _ _ lg sf sd a0 a1 a2 n0 c0 n1 c1 n2 c2 w4 hlg hEd hTd).mono ?_
        rintro e w5 ⟨P, k, g, N, T, hwh, hN, hTT, rfl, hEn, hb5⟩
        have K5 : Hid (Below w3.heap.size w3 w5) := K4.out.trans (hb5.mono K4.out.size)
        have HWH := hiD hwh
        have HEN := hiD hEn
        clear hb5 hwh hN hTT hEn hEd hTd
        obtain ⟨LQ, hLQ⟩ := ex' (lastQ sd P)
        obtain ⟨SL, hSL⟩ := ex' (sortE (P.map (lateL sd)).flatten)
        have HLQ := hiD hLQ
        have HSL := hiD hSL
        rw [← hLQ]
        have HEN2 : Hid (EntsAt w5 (some ⟨g, 0, none⟩) N N SL) := by rw [hSL]; exact HEN.out
        clear hLQ hSL HEN
        go_wp2_with fail
        refine hK.out _ _ (HMK.out _ (HSK.out _ K5.out)) (fun hHeld => ?_)
        clear hK K
        (try go_frame)
        have hfd := field_tree LQ g N a0 a1 a2 n0 c0 n1 c1 n2 c2 T sd
        refine tkr 8 1 hHeld ?_
        refine rd1 9 fun K hK => ?_
        obtain ⟨A, B, C, hU3, hr0, hr1, hr2⟩ := HLW.out.keep (K3.out.trans (K5.out.mono K3.out.size))
        have HU3 := hiD hU3
        have CIO := implIsOk lo LQ (some ⟨g, 0, none⟩) none N N 0 0 a0 a1 a2 n0 c0 n1 c1 n2 c2 SL A B C [] w5 HEN2.out (ints_nil lo w5 none) hr0 hr1 hr2
        obtain ⟨OB, hOB⟩ := ex' (treeB LQ SL [A, B, C] [])
        have HOB := hiD hOB
        rw [← hOB] at CIO
        clear hU3 hr0 hr1 hr2 hOB
        go_simp
        refine CIO.mono ?_
        rintro e w6 ⟨rfl, hb6⟩
        have K6 : Hid (Below w3.heap.size w3 w6) := K5.out.trans (hb6.mono K5.out.size)
        clear hb6 CIO
        go_wp2_with fail
        refine hK.out _ _ (HMK.out _ (HSK.out _ K6.out)) (fun hHeld => ?_)
        clear hK K
        (try go_frame)
        refine tkr 10 1 hHeld ?_
        have hr := HRB.out.keep K6.out
        have r0 := hr.c0
        have r1 := hr.c1
        have r2 := hr.c2
        have r3 := hr.c3
        have r4 := hr.c4
        have r5 := hr.c5
        have r6 := hr.c6
        have r7 := hr.c7
        have r8 := hr.c8
        have r9 := hr.c9
        have r10 := hr.c10
        have r11 := hr.c11
        have r12 := hr.c12
        have rf := hr.fz
        have rz := hr.lt
        refine rd1 11 fun K hK => ?_
        obtain ⟨wz, hwz⟩ : ∃ wz, wz = (((((((((((((w6.setCell ⟨X + 1, 0, none⟩ (.bool false)).setCell ⟨X + 1, 1, none⟩ (.int .i64 0)).setCell ⟨X + 1, 2, none⟩ (.slice none 0 0)).setCell ⟨X + 1, 3, none⟩ (.slice none 0 0)).setCell ⟨X + 1, 4, none⟩ (.slice none 0 0)).setCell ⟨X + 1, 5, none⟩ (.slice none 0 0)).setCell ⟨X + 1, 6, none⟩ (.slice none 0 0)).setCell ⟨X + 1, 7, none⟩ (.string lg)).setCell ⟨X + 1, 8, none⟩ (.int .i64 sf)).setCell ⟨X + 1, 9, none⟩ (.slice a0 n0 c0)).setCell ⟨X + 1, 10, none⟩ (.slice a1 n1 c1)).setCell ⟨X + 1, 11, none⟩ (.slice a2 n2 c2)).setCell ⟨X + 1, 12, none⟩ (.int .i64 sd)) := ⟨_, rfl⟩
        have HRZ : Hid (Box13 wz (X + 1) (.bool false) (.int .i64 0) (.slice none 0 0) (.slice none 0 0) (.slice none 0 0) (.slice none 0 0) (.slice none 0 0) (.string lg) (.int .i64 sf) (.slice a0 n0 c0) (.slice a1 n1 c1) (.slice a2 n2 c2) (.int .i64 sd)) := by rw [hwz]; exact hr.sets (.bool false) (.int .i64 0) (.slice none 0 0) (.slice none 0 0) (.slice none 0 0) (.slice none 0 0) (.slice none 0 0) (.string lg) (.int .i64 sf) (.slice a0 n0 c0) (.slice a1 n1 c1) (.slice a2 n2 c2) (.int .i64 sd)
        have HKZ : Hid (Below w.heap.size w wz) := by rw [hwz]; exact below_sets13 (K3.out.trans ((K6.out).mono K3.out.size)) HYX.out.2.2.1 (.bool false) (.int .i64 0) (.slice none 0 0) (.slice none 0 0) (.slice none 0 0) (.slice none 0 0) (.slice none 0 0) (.string lg) (.int .i64 sf) (.slice a0 n0 c0) (.slice a1 n1 c1) (.slice a2 n2 c2) (.int .i64 sd)
        have hR := HSK.out _ (K6.out)
        have hRz : ((∀ o, wz.cell? ⟨X, o, none⟩ = w3.cell? ⟨X, o, none⟩) ∧ (∀ o, wz.cell? ⟨Z, o, none⟩ = w3.cell? ⟨Z, o, none⟩) ∧ w3.heap.size ≤ wz.heap.size) := ⟨fun o => by rw [hwz]; exact (cell_sets13 HYX.out.2.1 (.bool false) (.int .i64 0) (.slice none 0 0) (.slice none 0 0) (.slice none 0 0) (.slice none 0 0) (.slice none 0 0) (.string lg) (.int .i64 sf) (.slice a0 n0 c0) (.slice a1 n1 c1) (.slice a2 n2 c2) (.int .i64 sd)).trans (hR.1 o), fun o => by rw [hwz]; exact (cell_sets13 HZX.out (.bool false) (.int .i64 0) (.slice none 0 0) (.slice none 0 0) (.slice none 0 0) (.slice none 0 0) (.slice none 0 0) (.string lg) (.int .i64 sf) (.slice a0 n0 c0) (.slice a1 n1 c1) (.slice a2 n2 c2) (.int .i64 sd)).trans (hR.2.1 o), by rw [hwz, size_sets13]; exact hR.2.2⟩
        go_simp
        rw [← hwz]
        clear hr hwz hR r0 r1 r2 r3 r4 r5 r6 r7 r8 r9 r10 r11 r12 rf rz
        refine hK.out _ _ (HMK.out _ hRz) (fun hHeld => ?_)
        clear hK K hRz
        (try go_frame)
        refine tkr 12 1 hHeld ?_
        refine dN ?_
        go_wp2
        refine bodyPost_ret (v := .tuple #[.agg #[.bool false, .int .i64 0, .slice none 0 0, .slice none 0 0, .slice none 0 0, .slice none 0 0, .slice none 0 0, .string lg, .int .i64 sf, .slice a0 n0 c0, .slice a1 n1 c1, .slice a2 n2 c2, .int .i64 sd], .bool OB]) ?_ rfl ⟨_, OB, rfl, ⟨_, _, _, _, _, _, _, _, _, _, _, _, _, _, _, _, _, _, _, _, _, _, _, _, _, _, _, _, _, rfl⟩, fun P' k' hW' => ?_, HKZ.out, fun hb => ?_⟩
        · have e := HRZ.out
          simp [results, Tryz.results44, go_sem, e.c0, e.c1, e.c2, e.c3, e.c4, e.c5, e.c6, e.c7, e.c8, e.c9, e.c10, e.c11, e.c12]
        · obtain ⟨rfl, rfl⟩ := whole_inj HWH.out hW'
          unfold stB
          rw [← HDB.out, ← HTS.out, HOB.out, ← HU3.out, HLQ.out, HSL.out]
          rfl
        · exact ⟨a0, a1, a2, n0, c0, n1, c1, n2, c2, HLW.out.keep HKZ.out, fun _ => rfl, fun h => by cases h⟩
    | true =>
      have CT := shTreeA lo q am av ak nm cm nv cv ns cs M V S w w2 HT.out HKK.out
      clear y0 y1 y2 y3 y4 y5 yz
      go_wp2_with fail
      refine CT.mono ?_
      rintro e wt ⟨z, vm, vk, mn, mc, kn, kc, b0, b1, b2, m0, e0, m1, e1, m2, e2, rfl, hlt, hbt⟩
      obtain ⟨TB, hTBv⟩ := ex' (treeB q M V S)
      have HTV := hiD hTBv
      rw [← hTBv] at hlt ⊢
      have HLT := hiD hlt
      have HYT := hiD (HBY.out.keep hbt)
      have HXT := hiD (HXL.out.keep hbt)
      have HRT := hiD (HRL.out.keep hbt)
      have KT : Hid (Below w.heap.size w wt) := HKK.out.trans (hbt.mono HKK.out.size)
      have HTS : Hid (w2.heap.size ≤ wt.heap.size) := hbt.size
      have yl := HYT.out
      have y0 := yl.c0
      have y1 := yl.c1
      have y2 := yl.c2
      have y3 := yl.c3
      have y4 := yl.c4
      have y5 := yl.c5
      have yz := yl.lt
      clear hlt hbt hTBv CT x0 x1 x2 x3 x4 xz yl HXL HRL HBY
      go_upto_region 9 with fail
      clear y0 y1 y2 y3 y4 y5 yz
      obtain ⟨w3, hw3⟩ := ex' ((wt.alloc (.cells #[.int .i64 z, .slice vm mn mc, .slice b0 m0 e0, .slice b1 m1 e1, .slice b2 m2 e2, .slice vk kn kc] 67)).alloc (.cells #[.bool true, .int .i64 z, .slice vm mn mc, .slice b0 m0 e0, .slice b1 m1 e1, .slice b2 m2 e2, .slice vk kn kc, .string lg, .int .i64 sf, .slice a0 n0 c0, .slice a1 n1 c1, .slice a2 n2 c2, .int .i64 sd] 71))
      obtain ⟨Z, hZ⟩ := ex' (wt.heap.size + 1)
      have k3 : Below wt.heap.size wt w3 := by rw [hw3]; exact ((Below.refl _ _).alloc (Nat.le_refl _) _).alloc (by simp) _
      have HBZ : Hid (Box13 w3 Z (.bool true) (.int .i64 z) (.slice vm mn mc) (.slice b0 m0 e0) (.slice b1 m1 e1) (.slice b2 m2 e2) (.slice vk kn kc) (.string lg) (.int .i64 sf) (.slice a0 n0 c0) (.slice a1 n1 c1) (.slice a2 n2 c2) (.int .i64 sd)) := by
        have := Box13.new (wt.alloc (.cells #[.int .i64 z, .slice vm mn mc, .slice b0 m0 e0, .slice b1 m1 e1, .slice b2 m2 e2, .slice vk kn kc] 67)) 71 (.bool true) (.int .i64 z) (.slice vm mn mc) (.slice b0 m0 e0) (.slice b1 m1 e1) (.slice b2 m2 e2) (.slice vk kn kc) (.string lg) (.int .i64 sf) (.slice a0 n0 c0) (.slice a1 n1 c1) (.slice a2 n2 c2) (.int .i64 sd)
        rw [World.size_alloc] at this
        rw [hw3, hZ]
        exact this
      have HXB := hiD (HXT.out.keep k3)
      have HRB := hiD (HRT.out.keep k3)
      have K3 : Hid (Below w.heap.size w w3) := KT.out.trans (k3.mono KT.out.size)
      have hzx : Z ≠ X + 1 := by have := HRT.out.lt; omega
      have HZX := hiD hzx
      rw [← hw3, ← hZ]
      clear hw3 hZ k3 hzx HXT HRT HYT
      have HMK : Hid (∀ w' : World, ((∀ o, w'.cell? ⟨X, o, none⟩ = w3.cell? ⟨X, o, none⟩) ∧ (∀ o, w'.cell? ⟨Z, o, none⟩ = w3.cell? ⟨Z, o, none⟩) ∧ w3.heap.size ≤ w'.heap.size) → (w'.cell? ⟨X, 3, none⟩ = some (.slice av nv cv) ∧ w'.cell? ⟨X, 7, none⟩ = some (.slice dv nd cd) ∧ w'.cell? ⟨Z, 0, none⟩ = some (.bool true) ∧ w'.cell? ⟨Z, 1, none⟩ = some (.int .i64 z) ∧ w'.cell? ⟨Z, 2, none⟩ = some (.slice vm mn mc) ∧ w'.cell? ⟨Z, 3, none⟩ = some (.slice b0 m0 e0) ∧ w'.cell? ⟨Z, 4, none⟩ = some (.slice b1 m1 e1) ∧ w'.cell? ⟨Z, 5, none⟩ = some (.slice b2 m2 e2) ∧ w'.cell? ⟨Z, 6, none⟩ = some (.slice vk kn kc) ∧ w'.cell? ⟨Z, 7, none⟩ = some (.string lg) ∧ w'.cell? ⟨Z, 8, none⟩ = some (.int .i64 sf) ∧ w'.cell? ⟨Z, 9, none⟩ = some (.slice a0 n0 c0) ∧ w'.cell? ⟨Z, 10, none⟩ = some (.slice a1 n1 c1) ∧ w'.cell? ⟨Z, 11, none⟩ = some (.slice a2 n2 c2) ∧ w'.cell? ⟨Z, 12, none⟩ = some (.int .i64 sd) ∧ X < w'.heap.size ∧ Z < w'.heap.size)) := fun w' k => ⟨(k.1 _).trans HXB.out.c3, (k.1 _).trans HXB.out.c7, (k.2.1 _).trans HBZ.out.c0, (k.2.1 _).trans HBZ.out.c1, (k.2.1 _).trans HBZ.out.c2, (k.2.1 _).trans HBZ.out.c3, (k.2.1 _).trans HBZ.out.c4, (k.2.1 _).trans HBZ.out.c5, (k.2.1 _).trans HBZ.out.c6, (k.2.1 _).trans HBZ.out.c7, (k.2.1 _).trans HBZ.out.c8, (k.2.1 _).trans HBZ.out.c9, (k.2.1 _).trans HBZ.out.c10, (k.2.1 _).trans HBZ.out.c11, (k.2.1 _).trans HBZ.out.c12, Nat.lt_of_lt_of_le HXB.out.lt k.2.2, Nat.lt_of_lt_of_le HBZ.out.lt k.2.2⟩
      have HSK : Hid (∀ w', Below w3.heap.size w3 w' → ((∀ o, w'.cell? ⟨X, o, none⟩ = w3.cell? ⟨X, o, none⟩) ∧ (∀ o, w'.cell? ⟨Z, o, none⟩ = w3.cell? ⟨Z, o, none⟩) ∧ w3.heap.size ≤ w'.heap.size)) := fun w' k => ⟨fun o => k.cell (p := ⟨X, o, none⟩) HXB.out.lt, fun o => k.cell (p := ⟨Z, o, none⟩) HBZ.out.lt, k.size⟩
      have k0 : Below w3.heap.size w3 w3.drew := (Below.refl _ w3).drew
      refine drw HMK (HSK.out _ k0) fun hHeld => ?_
      generalize w3.drew = wd at k0 hHeld ⊢
      cases hTBv : TB with
      | false =>
        rw [hTBv] at HTV
        clear hTBv
        refine tkr 0 15 hHeld ?_
        have hr := HRB.out.keep k0
        have r0 := hr.c0
        have r1 := hr.c1
        have r2 := hr.c2
        have r3 := hr.c3
        have r4 := hr.c4
        have r5 := hr.c5
        have r6 := hr.c6
        have r7 := hr.c7
        have r8 := hr.c8
        have r9 := hr.c9
        have r10 := hr.c10
        have r11 := hr.c11
        have r12 := hr.c12
        have rf := hr.fz
        have rz := hr.lt
        refine rd1 15 fun K hK => ?_
        obtain ⟨wz, hwz⟩ : ∃ wz, wz = (((((((((((((wd.setCell ⟨X + 1, 0, none⟩ (.bool true)).setCell ⟨X + 1, 1, none⟩ (.int .i64 z)).setCell ⟨X + 1, 2, none⟩ (.slice vm mn mc)).setCell ⟨X + 1, 3, none⟩ (.slice b0 m0 e0)).setCell ⟨X + 1, 4, none⟩ (.slice b1 m1 e1)).setCell ⟨X + 1, 5, none⟩ (.slice b2 m2 e2)).setCell ⟨X + 1, 6, none⟩ (.slice vk kn kc)).setCell ⟨X + 1, 7, none⟩ (.string lg)).setCell ⟨X + 1, 8, none⟩ (.int .i64 sf)).setCell ⟨X + 1, 9, none⟩ (.slice a0 n0 c0)).setCell ⟨X + 1, 10, none⟩ (.slice a1 n1 c1)).setCell ⟨X + 1, 11, none⟩ (.slice a2 n2 c2)).setCell ⟨X + 1, 12, none⟩ (.int .i64 sd)) := ⟨_, rfl⟩
        have HRZ : Hid (Box13 wz (X + 1) (.bool true) (.int .i64 z) (.slice vm mn mc) (.slice b0 m0 e0) (.slice b1 m1 e1) (.slice b2 m2 e2) (.slice vk kn kc) (.string lg) (.int .i64 sf) (.slice a0 n0 c0) (.slice a1 n1 c1) (.slice a2 n2 c2) (.int .i64 sd)) := by rw [hwz]; exact hr.sets (.bool true) (.int .i64 z) (.slice vm mn mc) (.slice b0 m0 e0) (.slice b1 m1 e1) (.slice b2 m2 e2) (.slice vk kn kc) (.string lg) (.int .i64 sf) (.slice a0 n0 c0) (.slice a1 n1 c1) (.slice a2 n2 c2) (.int .i64 sd)
        have HKZ : Hid (Below w.heap.size w wz) := by rw [hwz]; exact below_sets13 (K3.out.trans ((k0).mono K3.out.size)) HYX.out.2.2.1 (.bool true) (.int .i64 z) (.slice vm mn mc) (.slice b0 m0 e0) (.slice b1 m1 e1) (.slice b2 m2 e2) (.slice vk kn kc) (.string lg) (.int .i64 sf) (.slice a0 n0 c0) (.slice a1 n1 c1) (.slice a2 n2 c2) (.int .i64 sd)
        have hR := HSK.out _ (k0)
        have hRz : ((∀ o, wz.cell? ⟨X, o, none⟩ = w3.cell? ⟨X, o, none⟩) ∧ (∀ o, wz.cell? ⟨Z, o, none⟩ = w3.cell? ⟨Z, o, none⟩) ∧ w3.heap.size ≤ wz.heap.size) := ⟨fun o => by rw [hwz]; exact (cell_sets13 HYX.out.2.1 (.bool true) (.int .i64 z) (.slice vm mn mc) (.slice b0 m0 e0) (.slice b1 m1 e1) (.slice b2 m2 e2) (.slice vk kn kc) (.string lg) (.int .i64 sf) (.slice a0 n0 c0) (.slice a1 n1 c1) (.slice a2 n2 c2) (.int .i64 sd)).trans (hR.1 o), fun o => by rw [hwz]; exact (cell_sets13 HZX.out (.bool true) (.int .i64 z) (.slice vm mn mc) (.slice b0 m0 e0) (.slice b1 m1 e1) (.slice b2 m2 e2) (.slice vk kn kc) (.string lg) (.int .i64 sf) (.slice a0 n0 c0) (.slice a1 n1 c1) (.slice a2 n2 c2) (.int .i64 sd)).trans (hR.2.1 o), by rw [hwz, size_sets13]; exact hR.2.2⟩
        go_simp
        rw [← hwz]
        clear hr hwz hR r0 r1 r2 r3 r4 r5 r6 r7 r8 r9 r10 r11 r12 rf rz
        refine hK.out _ _ (HMK.out _ hRz) (fun hHeld => ?_)
        clear hK K hRz
        (try go_frame)
        refine tkr 16 1 hHeld ?_
        refine dN ?_
        go_wp2
        refine bodyPost_ret (v := .tuple #[.agg #[.bool true, .int .i64 z, .slice vm mn mc, .slice b0 m0 e0, .slice b1 m1 e1, .slice b2 m2 e2, .slice vk kn kc, .string lg, .int .i64 sf, .slice a0 n0 c0, .slice a1 n1 c1, .slice a2 n2 c2, .int .i64 sd], .bool false]) ?_ rfl ⟨_, false, rfl, ⟨_, _, _, _, _, _, _, _, _, _, _, _, _, _, _, _, _, _, _, _, _, _, _, _, _, _, _, _, _, rfl⟩, fun P' k' hW' => ?_, HKZ.out, fun hb => ?_⟩
        · have e := HRZ.out
          simp [results, Tryz.results44, go_sem, e.c0, e.c1, e.c2, e.c3, e.c4, e.c5, e.c6, e.c7, e.c8, e.c9, e.c10, e.c11, e.c12]
        · unfold stB
          rw [← HDB.out, ← HTV.out]
          rfl
        · cases hb
      | true =>
        rw [hTBv] at HTV HLT
        clear hTBv
        obtain ⟨rfl, rfl, rfl, rfl, rfl, rfl, rfl, hl⟩ := HLT.out rfl
        have HLT2 := hiD hl
        clear hl HLT
        refine tkr 0 9 hHeld ?_
        refine rd1 9 fun K hK => ?_
        go_simp
        refine (levelsEqual lo lo av dv nv cv nd cd V U wd ((HT.out.levels.keep K3.out).keep k0) ((HU.out.keep K3.out).keep k0)).mono ?_
        obtain ⟨EQ, hEQ⟩ := ex' (decide (V = U))
        have HEQ := hiD hEQ
        rw [← hEQ]
        clear hEQ
        rintro e w4 ⟨rfl, hb4⟩
        have K4 : Hid (Below w3.heap.size w3 w4) := k0.trans (hb4.mono k0.size)
        clear hb4
        go_wp2_with fail
        refine hK.out _ _ (HMK.out _ (HSK.out _ K4.out)) (fun hHeld => ?_)
        clear hK K
        (try go_frame)
        cases hEQv : EQ with
        | false =>
          rw [hEQv] at HEQ
          clear hEQv
          refine tkr 10 5 hHeld ?_
          have hr := HRB.out.keep K4.out
          have r0 := hr.c0
          have r1 := hr.c1
          have r2 := hr.c2
          have r3 := hr.c3
          have r4 := hr.c4
          have r5 := hr.c5
          have r6 := hr.c6
          have r7 := hr.c7
          have r8 := hr.c8
          have r9 := hr.c9
          have r10 := hr.c10
          have r11 := hr.c11
          have r12 := hr.c12
          have rf := hr.fz
          have rz := hr.lt
          refine rd1 15 fun K hK => ?_
          obtain ⟨wz, hwz⟩ : ∃ wz, wz = (((((((((((((w4.setCell ⟨X + 1, 0, none⟩ (.bool true)).setCell ⟨X + 1, 1, none⟩ (.int .i64 q)).setCell ⟨X + 1, 2, none⟩ (.slice am nm cm)).setCell ⟨X + 1, 3, none⟩ (.slice b0 m0 e0)).setCell ⟨X + 1, 4, none⟩ (.slice b1 m1 e1)).setCell ⟨X + 1, 5, none⟩ (.slice b2 m2 e2)).setCell ⟨X + 1, 6, none⟩ (.slice ak ns cs)).setCell ⟨X + 1, 7, none⟩ (.string lg)).setCell ⟨X + 1, 8, none⟩ (.int .i64 sf)).setCell ⟨X + 1, 9, none⟩ (.slice a0 n0 c0)).setCell ⟨X + 1, 10, none⟩ (.slice a1 n1 c1)).setCell ⟨X + 1, 11, none⟩ (.slice a2 n2 c2)).setCell ⟨X + 1, 12, none⟩ (.int .i64 sd)) := ⟨_, rfl⟩
          have HRZ : Hid (Box13 wz (X + 1) (.bool true) (.int .i64 q) (.slice am nm cm) (.slice b0 m0 e0) (.slice b1 m1 e1) (.slice b2 m2 e2) (.slice ak ns cs) (.string lg) (.int .i64 sf) (.slice a0 n0 c0) (.slice a1 n1 c1) (.slice a2 n2 c2) (.int .i64 sd)) := by rw [hwz]; exact hr.sets (.bool true) (.int .i64 q) (.slice am nm cm) (.slice b0 m0 e0) (.slice b1 m1 e1) (.slice b2 m2 e2) (.slice ak ns cs) (.string lg) (.int .i64 sf) (.slice a0 n0 c0) (.slice a1 n1 c1) (.slice a2 n2 c2) (.int .i64 sd)
          have HKZ : Hid (Below w.heap.size w wz) := by rw [hwz]; exact below_sets13 (K3.out.trans ((K4.out).mono K3.out.size)) HYX.out.2.2.1 (.bool true) (.int .i64 q) (.slice am nm cm) (.slice b0 m0 e0) (.slice b1 m1 e1) (.slice b2 m2 e2) (.slice ak ns cs) (.string lg) (.int .i64 sf) (.slice a0 n0 c0) (.slice a1 n1 c1) (.slice a2 n2 c2) (.int .i64 sd)
          have hR := HSK.out _ (K4.out)
          have hRz : ((∀ o, wz.cell? ⟨X, o, none⟩ = w3.cell? ⟨X, o, none⟩) ∧ (∀ o, wz.cell? ⟨Z, o, none⟩ = w3.cell? ⟨Z, o, none⟩) ∧ w3.heap.size ≤ wz.heap.size) := ⟨fun o => by rw [hwz]; exact (cell_sets13 HYX.out.2.1 (.bool true) (.int .i64 q) (.slice am nm cm) (.slice b0 m0 e0) (.slice b1 m1 e1) (.slice b2 m2 e2) (.slice ak ns cs) (.string lg) (.int .i64 sf) (.slice a0 n0 c0) (.slice a1 n1 c1) (.slice a2 n2 c2) (.int .i64 sd)).trans (hR.1 o), fun o => by rw [hwz]; exact (cell_sets13 HZX.out (.bool true) (.int .i64 q) (.slice am nm cm) (.slice b0 m0 e0) (.slice b1 m1 e1) (.slice b2 m2 e2) (.slice ak ns cs) (.string lg) (.int .i64 sf) (.slice a0 n0 c0) (.slice a1 n1 c1) (.slice a2 n2 c2) (.int .i64 sd)).trans (hR.2.1 o), by rw [hwz, size_sets13]; exact hR.2.2⟩
          go_simp
          rw [← hwz]
          clear hr hwz hR r0 r1 r2 r3 r4 r5 r6 r7 r8 r9 r10 r11 r12 rf rz
          refine hK.out _ _ (HMK.out _ hRz) (fun hHeld => ?_)
          clear hK K hRz
          (try go_frame)
          refine tkr 16 1 hHeld ?_
          refine dN ?_
          go_wp2
          refine bodyPost_ret (v := .tuple #[.agg #[.bool true, .int .i64 q, .slice am nm cm, .slice b0 m0 e0, .slice b1 m1 e1, .slice b2 m2 e2, .slice ak ns cs, .string lg, .int .i64 sf, .slice a0 n0 c0, .slice a1 n1 c1, .slice a2 n2 c2, .int .i64 sd], .bool false]) ?_ rfl ⟨_, false, rfl, ⟨_, _, _, _, _, _, _, _, _, _, _, _, _, _, _, _, _, _, _, _, _, _, _, _, _, _, _, _, _, rfl⟩, fun P' k' hW' => ?_, HKZ.out, fun hb => ?_⟩
          · have e := HRZ.out
            simp [results, Tryz.results44, go_sem, e.c0, e.c1, e.c2, e.c3, e.c4, e.c5, e.c6, e.c7, e.c8, e.c9, e.c10, e.c11, e.c12]
          · unfold stB
            rw [← HDB.out, ← HTV.out, ← HEQ.out]
            rfl
          · cases hb
        | true =>
          rw [hEQv] at HEQ
          clear hEQv
          refine tkr 10 3 hHeld ?_
          refine rd1 13 fun K hK => ?_
          have hEd : ErrB w4.heap.size w4 := fun w' kk => HE.out w' ((K3.out.trans (K4.out.mono K3.out.size)).trans (kk.mono (Nat.le_trans K3.out.size K4.out.size)))
          have hTd : TabB w4.heap.size w4 := fun w' kk => HTB.out w' ((K3.out.trans (K4.out.mono K3.out.size)).trans (kk.mono (Nat.le_trans K3.out.size K4.out.size)))
          go_simp
          refine (implInLog q am ak nm cm ns cs b0 b1 b2 m0 e0 m1 e1 m2 e2 M lg sf sd a0 a1 a2 n0 c0 n1 c1 n2 c2 w4 ((HT.out.mem.1.keep K3.out).keep K4.out) hlg hEd hTd).mono ?_
          rintro e w5 ⟨P, k, hwh, rfl, hb5⟩
          have K5 : Hid (Below w3.heap.size w3 w5) := K4.out.trans (hb5.mono K4.out.size)
          have HWH := hiD hwh
          obtain ⟨LB, hLB⟩ := ex' (logB k lg.size sd P q M)
          have HLB := hiD hLB
          rw [← hLB]
          clear hb5 hwh hLB hEd hTd
          go_wp2_with fail
          refine hK.out _ _ (HMK.out _ (HSK.out _ K5.out)) (fun hHeld => ?_)
          clear hK K
          (try go_frame)
          refine tkr 14 1 hHeld ?_
          have hr := HRB.out.keep K5.out
          have r0 := hr.c0
          have r1 := hr.c1
          have r2 := hr.c2
          have r3 := hr.c3
          have r4 := hr.c4
          have r5 := hr.c5
          have r6 := hr.c6
          have r7 := hr.c7
          have r8 := hr.c8
          have r9 := hr.c9
          have r10 := hr.c10
          have r11 := hr.c11
          have r12 := hr.c12
          have rf := hr.fz
          have rz := hr.lt
          refine rd1 15 fun K hK => ?_
          obtain ⟨wz, hwz⟩ : ∃ wz, wz = (((((((((((((w5.setCell ⟨X + 1, 0, none⟩ (.bool true)).setCell ⟨X + 1, 1, none⟩ (.int .i64 q)).setCell ⟨X + 1, 2, none⟩ (.slice am nm cm)).setCell ⟨X + 1, 3, none⟩ (.slice b0 m0 e0)).setCell ⟨X + 1, 4, none⟩ (.slice b1 m1 e1)).setCell ⟨X + 1, 5, none⟩ (.slice b2 m2 e2)).setCell ⟨X + 1, 6, none⟩ (.slice ak ns cs)).setCell ⟨X + 1, 7, none⟩ (.string lg)).setCell ⟨X + 1, 8, none⟩ (.int .i64 sf)).setCell ⟨X + 1, 9, none⟩ (.slice a0 n0 c0)).setCell ⟨X + 1, 10, none⟩ (.slice a1 n1 c1)).setCell ⟨X + 1, 11, none⟩ (.slice a2 n2 c2)).setCell ⟨X + 1, 12, none⟩ (.int .i64 sd)) := ⟨_, rfl⟩
          have HRZ : Hid (Box13 wz (X + 1) (.bool true) (.int .i64 q) (.slice am nm cm) (.slice b0 m0 e0) (.slice b1 m1 e1) (.slice b2 m2 e2) (.slice ak ns cs) (.string lg) (.int .i64 sf) (.slice a0 n0 c0) (.slice a1 n1 c1) (.slice a2 n2 c2) (.int .i64 sd)) := by rw [hwz]; exact hr.sets (.bool true) (.int .i64 q) (.slice am nm cm) (.slice b0 m0 e0) (.slice b1 m1 e1) (.slice b2 m2 e2) (.slice ak ns cs) (.string lg) (.int .i64 sf) (.slice a0 n0 c0) (.slice a1 n1 c1) (.slice a2 n2 c2) (.int .i64 sd)
          have HKZ : Hid (Below w.heap.size w wz) := by rw [hwz]; exact below_sets13 (K3.out.trans ((K5.out).mono K3.out.size)) HYX.out.2.2.1 (.bool true) (.int .i64 q) (.slice am nm cm) (.slice b0 m0 e0) (.slice b1 m1 e1) (.slice b2 m2 e2) (.slice ak ns cs) (.string lg) (.int .i64 sf) (.slice a0 n0 c0) (.slice a1 n1 c1) (.slice a2 n2 c2) (.int .i64 sd)
          have hR := HSK.out _ (K5.out)
          have hRz : ((∀ o, wz.cell? ⟨X, o, none⟩ = w3.cell? ⟨X, o, none⟩) ∧ (∀ o, wz.cell? ⟨Z, o, none⟩ = w3.cell? ⟨Z, o, none⟩) ∧ w3.heap.size ≤ wz.heap.size) := ⟨fun o => by rw [hwz]; exact (cell_sets13 HYX.out.2.1 (.bool true) (.int .i64 q) (.slice am nm cm) (.slice b0 m0 e0) (.slice b1 m1 e1) (.slice b2 m2 e2) (.slice ak ns cs) (.string lg) (.int .i64 sf) (.slice a0 n0 c0) (.slice a1 n1 c1) (.slice a2 n2 c2) (.int .i64 sd)).trans (hR.1 o), fun o => by rw [hwz]; exact (cell_sets13 HZX.out (.bool true) (.int .i64 q) (.slice am nm cm) (.slice b0 m0 e0) (.slice b1 m1 e1) (.slice b2 m2 e2) (.slice ak ns cs) (.string lg) (.int .i64 sf) (.slice a0 n0 c0) (.slice a1 n1 c1) (.slice a2 n2 c2) (.int .i64 sd)).trans (hR.2.1 o), by rw [hwz, size_sets13]; exact hR.2.2⟩
          go_simp
          rw [← hwz]
          clear hr hwz hR r0 r1 r2 r3 r4 r5 r6 r7 r8 r9 r10 r11 r12 rf rz
          refine hK.out _ _ (HMK.out _ hRz) (fun hHeld => ?_)
          clear hK K hRz
          (try go_frame)
          refine tkr 16 1 hHeld ?_
          refine dN ?_
          go_wp2
          refine bodyPost_ret (v := .tuple #[.agg #[.bool true, .int .i64 q, .slice am nm cm, .slice b0 m0 e0, .slice b1 m1 e1, .slice b2 m2 e2, .slice ak ns cs, .string lg, .int .i64 sf, .slice a0 n0 c0, .slice a1 n1 c1, .slice a2 n2 c2, .int .i64 sd], .bool LB]) ?_ rfl ⟨_, LB, rfl, ⟨_, _, _, _, _, _, _, _, _, _, _, _, _, _, _, _, _, _, _, _, _, _, _, _, _, _, _, _, _, rfl⟩, fun P' k' hW' => ?_, HKZ.out, fun hb => ?_⟩
          · have e := HRZ.out
            simp [results, Tryz.results44, go_sem, e.c0, e.c1, e.c2, e.c3, e.c4, e.c5, e.c6, e.c7, e.c8, e.c9, e.c10, e.c11, e.c12]
          · obtain ⟨rfl, rfl⟩ := whole_inj HWH.out hW'
            unfold stB
            rw [← HDB.out, ← HTV.out, ← HEQ.out, HLB.out]
            rfl
          · exact ⟨a0, a1, a2, n0, c0, n1, c1, n2, c2, HLV.out.keep HKZ.out, (fun h => by cases h), fun _ => ⟨b0, b1, b2, m0, e0, m1, e1, m2, e2, HLT2.out.keep HKZ.out, rfl⟩⟩
end Go.Proofs.YtapjkbpfhmbfaaaGreatDoor
