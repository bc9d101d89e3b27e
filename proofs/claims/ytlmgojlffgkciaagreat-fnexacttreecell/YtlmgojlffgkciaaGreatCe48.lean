/-
  TreeCell of both sides: what it answers at every tree, by walks of their Go text.
  The laws' sameness of cells, by a walk of its Go text.
-/
import Derived.Test.YtlmgojlffgkciaaGreatCe43
import Derived.Test.YtlmgojlffgkciaaGreatCe47
import Derived.Test.YtlmgojlffgkciaaGreatCe41
import Derived.Test.YtlmgojlffgkciaaGreatProg
import Derived.Test.YtlmgojlffgkciaaGreatCe01
namespace Go.Proofs.YtlmgojlffgkciaaGreat
open Go.RowKit
set_option maxRecDepth 100000
set_option maxHeartbeats 4000000
theorem tree_levels {q : Int} {M : List EntD} {A B C : List RunD} {S : List Int} (htb : treeB q M [A, B, C] S = true) : (A.length ≤ 4 ∧ B.length ≤ 8 ∧ C.length ≤ 8) ∧ (∀ Z ∈ [A, B, C], ∀ r ∈ Z, runB r.1 r.2 = true) ∧ levApart B = true ∧ levApart C = true := by
  have h8 : levelsB [A, B, C] q = true := (tree_parts htb).2.2.2.2.2.2.2.1
  unfold levelsB at h8
  simp only [Bool.and_eq_true] at h8
  obtain ⟨hA, hB, hC⟩ := h8
  rw [runs_iff] at hA hB hC
  have hb : ∀ {Z : List RunD}, badB Z = false → ∀ r ∈ Z, runB r.1 r.2 = true := fun {Z} h r hr => by
    unfold badB at h
    rw [List.any_eq_false] at h
    simpa using h r hr
  refine ⟨⟨by have := hA.1; omega, by have := hB.1; omega, by have := hC.1; omega⟩, fun Z hZ => ?_, hB.2.2.2 rfl, hC.2.2.2 rfl⟩
  simp only [List.mem_cons, List.not_mem_nil, or_false] at hZ
  rcases hZ with rfl | rfl | rfl
  · exact hb hA.2.1
  · exact hb hB.2.1
  · exact hb hC.2.1
theorem find_find (L : List EntD) (key : ByteArray) (seq : Int) : findL (findL L key seq) key seq = findL L key seq := by
  unfold findL
  rw [List.filter_filter]
  simp
theorem find_app (L K : List EntD) (key : ByteArray) (seq : Int) : findL (L ++ K) key seq = findL L key seq ++ findL K key seq := by
  unfold findL
  rw [List.filter_append]
theorem cell_both (M F : List EntD) (key : ByteArray) (seq : Int) : cellL (M ++ F) key seq = cellL (findL M key seq ++ F) key seq := by
  unfold cellL
  rw [find_app, find_app, find_find]
def treeCellL (M : List EntD) (V : List (List RunD)) (key : ByteArray) (seq : Int) : CellD := cellL (M ++ V.flatMap (fun Z => findB Z key seq)) key seq
theorem specTreeCell (lo : Nat) (q : Int) (am av ak : Option Addr) (nm cm nv cv nk ck : Nat) (M : List EntD) (V : List (List RunD)) (S : List Int) (key : ByteArray) (seq : Int) (w : World) (hT : TreeIn lo w am nm cm av nv cv ak nk ck M V S) :
    Calls Tryz.prog 19 #[.agg #[.int .i64 q, .slice am nm cm, .slice av nv cv, .slice ak nk ck], .string key, .int .i64 seq] w fun e w' => e = .returned (cellV (if treeB q M V S = true then treeCellL M V key seq else (false, ⟨#[]⟩, 0))) ∧ Below w.heap.size w w' := by
  obtain ⟨X, hX⟩ : ∃ X, X = w.heap.size := ⟨_, rfl⟩
  obtain ⟨W, hW⟩ : ∃ W, W = (w.alloc (.cells #[.int .i64 q, .slice am nm cm, .slice av nv cv, .slice ak nk ck] 31)).alloc (.cells #[.bool false, .string ⟨#[]⟩, .int .i64 0] 41) := ⟨_, rfl⟩
  have kW : Below w.heap.size w W := by rw [hW]; exact ((Below.refl _ _).alloc (Nat.le_refl _) _).alloc (by simp) _
  have bx : Box4 W X (.int .i64 q) (.slice am nm cm) (.slice av nv cv) (.slice ak nk ck) := by rw [hW, hX]; exact (Box4.new _ _ _ _ _ _).alloc _
  have HRB : Hid (W.cell? ⟨X + 1, 0, none⟩ = some (.bool false) ∧ W.cell? ⟨X + 1, 1, none⟩ = some (.string ⟨#[]⟩) ∧ W.cell? ⟨X + 1, 2, none⟩ = some (.int .i64 0) ∧ (∀ o, W.frozen? ⟨X + 1, o, none⟩ = false) ∧ X + 1 < W.heap.size) := by
    rw [hW, hX]
    refine ⟨?_, ?_, ?_, fun o => ?_, ?_⟩ <;> simp
  have K0 : Hid (Below w.heap.size w W) := kW
  have HX : Hid (X = w.heap.size) := hX
  have BX : Hid (Box4 W X (.int .i64 q) (.slice am nm cm) (.slice av nv cv) (.slice ak nk ck)) := bx
  obtain ⟨TB, hTB⟩ : ∃ TB, TB = treeB q M V S := ⟨_, rfl⟩
  have CO : Hid (Calls Tryz.prog 37 #[.agg #[.int .i64 q, .slice am nm cm, .slice av nv cv, .slice ak nk ck]] W fun e w'' => e = .returned (.bool TB) ∧ Below W.heap.size W w'') := by rw [hTB]; exact specTreeOk lo q _ _ _ _ _ _ _ _ _ M V S W (hT.keep kW)
  obtain ⟨RC, hRC⟩ : ∃ RC, RC = cellV (if treeB q M V S = true then treeCellL M V key seq else (false, ⟨#[]⟩, 0)) := ⟨_, rfl⟩
  obtain ⟨rb, rt, rn, hRV⟩ : ∃ (rb : Bool) (rt : ByteArray) (rn : Int), RC = .agg #[.bool rb, .string rt, .int .i64 rn] := by
    rw [hRC]
    exact ⟨_, _, _, rfl⟩
  have CL : Hid (TB = true → ∀ w', Below W.heap.size W w' → Calls Tryz.prog 52 #[.agg #[.int .i64 q, .slice am nm cm, .slice av nv cv, .slice ak nk ck], .string key, .int .i64 seq] w' fun e w'' => e = .returned (.agg #[.bool rb, .string rt, .int .i64 rn]) ∧ Below w'.heap.size w' w'') := fun ht w' kk => by
    rw [hTB] at ht
    rw [← hRV, hRC, if_pos ht]
    obtain ⟨A, B, C, hV3⟩ := three_of ht
    subst hV3
    have hnv : nv = 3 := hT.levels.length.symm
    subst hnv
    obtain ⟨b, off, rfl, _⟩ := hT.levels.form (by omega)
    obtain ⟨hl, hok, _⟩ := tree_levels ht
    have hM60 := (tree_parts ht).2.2.1
    have hml := hT.mem.1.length
    unfold treeCellL
    rw [cell_both]
    exact specCell5 lo q am nm cm b off cv ak nk ck M A B C S key seq w' ((hT.keep kW).keep kk) (by omega) (fun Z hZ => by simp only [List.mem_cons, List.not_mem_nil, or_false] at hZ; rcases hZ with rfl | rfl | rfl <;> omega) hok
  have HNO : Hid (TB = false → rb = false ∧ rt = ⟨#[]⟩ ∧ rn = 0) := fun ht => by
    rw [hTB] at ht
    rw [hRC, ht] at hRV
    simp only [Bool.false_eq_true, if_false, cellV, Value.agg.injEq] at hRV
    simp at hRV
    exact ⟨by first | exact hRV.1 | exact hRV.1.symm, by first | exact hRV.2.1 | exact hRV.2.1.symm, by first | exact hRV.2.2 | exact hRV.2.2.symm⟩
  rw [← hRC, hRV]
  clear hRC hRV hTB hT kW
  have x0 := bx.c0
  have x1 := bx.c1
  have x2 := bx.c2
  have x3 := bx.c3
  have xz := bx.lt
  clear bx
  go_enter Tryz.func19, Tryz.ntmps19
  go_wp2_with fail
  rw [← hX, ← hW]
  clear hX hW x0 x1 x2 x3 xz
  refine CO.out.mono ?_
  rintro e w1 ⟨rfl, hb1⟩
  cases TB with
  | false =>
    obtain ⟨rfl, rfl, rfl⟩ := HNO.out rfl
    obtain ⟨w2, hw2⟩ : ∃ w2, w2 = w1 := ⟨_, rfl⟩
    rw [← hw2] at hb1 ⊢
    clear hw2
    obtain ⟨r0, r1, r2, rf, rz⟩ := HRB.out
    have r0 := cell_later hb1 r0
    have r1 := cell_later hb1 r1
    have r2 := cell_later hb1 r2
    have rf : ∀ o, w2.frozen? ⟨X + 1, o, none⟩ = false := fun o => (hb1.frozen (p := ⟨X + 1, o, none⟩) rz).trans (rf o)
    have rz := Nat.lt_of_lt_of_le rz hb1.size
    have K2 : Hid (Below w.heap.size w w2) := K0.out.trans (hb1.mono K0.out.size)
    clear hb1
    go_wp2
    refine bodyPost_ret (v := .agg #[.bool false, .string ⟨#[]⟩, .int .i64 0]) ?_ rfl ⟨rfl, ?_⟩
    · have e0' : (((w2.setCell ⟨X + 1, 0, none⟩ (.bool false)).setCell ⟨X + 1, 1, none⟩ (.string ⟨#[]⟩)).setCell ⟨X + 1, 2, none⟩ (.int .i64 0)).cell? ⟨X + 1, 0, none⟩ = some (.bool false) := by rw [World.cell?_setCell_other _ _ _ _ (by simp), World.cell?_setCell_other _ _ _ _ (by simp)]; exact World.cell?_setCell_same' _ _ _ (by rw [r0]; rfl)
      have e1' : (((w2.setCell ⟨X + 1, 0, none⟩ (.bool false)).setCell ⟨X + 1, 1, none⟩ (.string ⟨#[]⟩)).setCell ⟨X + 1, 2, none⟩ (.int .i64 0)).cell? ⟨X + 1, 1, none⟩ = some (.string ⟨#[]⟩) := by rw [World.cell?_setCell_other _ _ _ _ (by simp)]; exact World.cell?_setCell_same' _ _ _ (by rw [World.cell?_setCell_other _ _ _ _ (by simp), r1]; rfl)
      have e2' : (((w2.setCell ⟨X + 1, 0, none⟩ (.bool false)).setCell ⟨X + 1, 1, none⟩ (.string ⟨#[]⟩)).setCell ⟨X + 1, 2, none⟩ (.int .i64 0)).cell? ⟨X + 1, 2, none⟩ = some (.int .i64 0) := World.cell?_setCell_same' _ _ _ (by rw [World.cell?_setCell_other _ _ _ _ (by simp), World.cell?_setCell_other _ _ _ _ (by simp), r2]; rfl)
      simp [results, Tryz.results19, go_sem, e0', e1', e2']
    · have hx : w.heap.size ≤ X + 1 := by have := HX.out; omega
      exact ((K2.out.setCell (p := ⟨X + 1, 0, none⟩) hx _).setCell (p := ⟨X + 1, 1, none⟩) hx _).setCell (p := ⟨X + 1, 2, none⟩) hx _
  | true =>
    have bx1 := BX.out.keep hb1
    have x0 := bx1.c0
    have x1 := bx1.c1
    have x2 := bx1.c2
    have x3 := bx1.c3
    have xz := bx1.lt
    have HK1 : Hid (Below W.heap.size W w1) := hb1
    clear bx1 hb1
    go_wp2_with fail
    clear x0 x1 x2 x3 xz
    refine (CL.out (by first | rfl | trivial) _ HK1.out).mono ?_
    rintro e w2 ⟨rfl, hb2⟩
    have hkk := HK1.out.trans (hb2.mono HK1.out.size)
    clear hb2
    obtain ⟨r0, r1, r2, rf, rz⟩ := HRB.out
    have r0 := cell_later hkk r0
    have r1 := cell_later hkk r1
    have r2 := cell_later hkk r2
    have rf : ∀ o, w2.frozen? ⟨X + 1, o, none⟩ = false := fun o => (hkk.frozen (p := ⟨X + 1, o, none⟩) rz).trans (rf o)
    have rz := Nat.lt_of_lt_of_le rz hkk.size
    have K2 : Hid (Below w.heap.size w w2) := K0.out.trans (hkk.mono K0.out.size)
    clear hkk
    go_wp2
    refine bodyPost_ret (v := .agg #[.bool rb, .string rt, .int .i64 rn]) ?_ rfl ⟨rfl, ?_⟩
    · have e0' : (((w2.setCell ⟨X + 1, 0, none⟩ (.bool rb)).setCell ⟨X + 1, 1, none⟩ (.string rt)).setCell ⟨X + 1, 2, none⟩ (.int .i64 rn)).cell? ⟨X + 1, 0, none⟩ = some (.bool rb) := by rw [World.cell?_setCell_other _ _ _ _ (by simp), World.cell?_setCell_other _ _ _ _ (by simp)]; exact World.cell?_setCell_same' _ _ _ (by rw [r0]; rfl)
      have e1' : (((w2.setCell ⟨X + 1, 0, none⟩ (.bool rb)).setCell ⟨X + 1, 1, none⟩ (.string rt)).setCell ⟨X + 1, 2, none⟩ (.int .i64 rn)).cell? ⟨X + 1, 1, none⟩ = some (.string rt) := by rw [World.cell?_setCell_other _ _ _ _ (by simp)]; exact World.cell?_setCell_same' _ _ _ (by rw [World.cell?_setCell_other _ _ _ _ (by simp), r1]; rfl)
      have e2' : (((w2.setCell ⟨X + 1, 0, none⟩ (.bool rb)).setCell ⟨X + 1, 1, none⟩ (.string rt)).setCell ⟨X + 1, 2, none⟩ (.int .i64 rn)).cell? ⟨X + 1, 2, none⟩ = some (.int .i64 rn) := World.cell?_setCell_same' _ _ _ (by rw [World.cell?_setCell_other _ _ _ _ (by simp), World.cell?_setCell_other _ _ _ _ (by simp), r2]; rfl)
      simp [results, Tryz.results19, go_sem, e0', e1', e2']
    · have hx : w.heap.size ≤ X + 1 := by have := HX.out; omega
      exact ((K2.out.setCell (p := ⟨X + 1, 0, none⟩) hx _).setCell (p := ⟨X + 1, 1, none⟩) hx _).setCell (p := ⟨X + 1, 2, none⟩) hx _
theorem implTreeCellNo (q : Int) (am av ak : Option Addr) (nm cm nv cv nk ck : Nat) (key : ByteArray) (seq : Int) (w : World)
    (hC : ∀ w', Below w.heap.size w w' → Calls Tryz.prog 53 #[.agg #[.int .i64 q, .slice am nm cm, .slice av nv cv, .slice ak nk ck]] w' fun e w'' => (∃ (q' : Int) (m' x0 x1 x2 k' : Value), e = .returned (.tuple #[.agg #[.int .i64 q', m', x0, x1, x2, k'], .bool false]) ∧ (∃ a n c, m' = .slice a n c) ∧ (∃ a n c, x0 = .slice a n c) ∧ (∃ a n c, x1 = .slice a n c) ∧ (∃ a n c, x2 = .slice a n c) ∧ (∃ a n c, k' = .slice a n c)) ∧ Below w'.heap.size w' w'') :
    Calls Tryz.prog 20 #[.agg #[.int .i64 q, .slice am nm cm, .slice av nv cv, .slice ak nk ck], .string key, .int .i64 seq] w fun e w' => e = .returned (.agg #[.bool false, .string ⟨#[]⟩, .int .i64 0]) ∧ Below w.heap.size w w' := by
  obtain ⟨X, hX⟩ : ∃ X, X = w.heap.size := ⟨_, rfl⟩
  obtain ⟨W, hW⟩ : ∃ W, W = (w.alloc (.cells #[.int .i64 q, .slice am nm cm, .slice av nv cv, .slice ak nk ck] 31)).alloc (.cells #[.bool false, .string ⟨#[]⟩, .int .i64 0] 41) := ⟨_, rfl⟩
  have kW : Below w.heap.size w W := by rw [hW]; exact ((Below.refl _ _).alloc (Nat.le_refl _) _).alloc (by simp) _
  have bx : Box4 W X (.int .i64 q) (.slice am nm cm) (.slice av nv cv) (.slice ak nk ck) := by rw [hW, hX]; exact (Box4.new _ _ _ _ _ _).alloc _
  have HRB : Hid (W.cell? ⟨X + 1, 0, none⟩ = some (.bool false) ∧ W.cell? ⟨X + 1, 1, none⟩ = some (.string ⟨#[]⟩) ∧ W.cell? ⟨X + 1, 2, none⟩ = some (.int .i64 0) ∧ (∀ o, W.frozen? ⟨X + 1, o, none⟩ = false) ∧ X + 1 < W.heap.size) := by
    rw [hW, hX]
    refine ⟨?_, ?_, ?_, fun o => ?_, ?_⟩ <;> simp
  have K0 : Hid (Below w.heap.size w W) := kW
  have HX : Hid (X = w.heap.size) := hX
  have BX : Hid (Box4 W X (.int .i64 q) (.slice am nm cm) (.slice av nv cv) (.slice ak nk ck)) := bx
  have CS := hC W kW
  have x0 := bx.c0
  have x1 := bx.c1
  have x2 := bx.c2
  have x3 := bx.c3
  have xz := bx.lt
  clear bx kW hC
  go_enter Tryz.func20, Tryz.ntmps20
  go_wp2_with fail
  rw [← hX, ← hW]
  clear hX hW x0 x1 x2 x3 xz
  refine CS.mono ?_
  rintro e w1 ⟨⟨q', _, _, _, _, _, rfl, ⟨m1, m2, m3, rfl⟩, ⟨y1, y2, y3, rfl⟩, ⟨z1, z2, z3, rfl⟩, ⟨u1, u2, u3, rfl⟩, ⟨v1, v2, v3, rfl⟩⟩, hb1⟩
  obtain ⟨w2, hw2⟩ : ∃ w2, w2 = w1.alloc (.cells #[.int .i64 q', .slice m1 m2 m3, .slice y1 y2 y3, .slice z1 z2 z3, .slice u1 u2 u3, .slice v1 v2 v3] 67) := ⟨_, rfl⟩
  have k2 : Below w1.heap.size w1 w2 := by rw [hw2]; exact (Below.refl _ _).alloc (Nat.le_refl _) _
  have hkk := hb1.trans (k2.mono hb1.size)
  clear hb1 k2
  go_upto_region 2 with fail
  rw [← hw2]
  clear hw2 CS
  obtain ⟨r0, r1, r2, rf, rz⟩ := HRB.out
  have r0 := cell_later hkk r0
  have r1 := cell_later hkk r1
  have r2 := cell_later hkk r2
  have rf : ∀ o, w2.frozen? ⟨X + 1, o, none⟩ = false := fun o => (hkk.frozen (p := ⟨X + 1, o, none⟩) rz).trans (rf o)
  have rz := Nat.lt_of_lt_of_le rz hkk.size
  have K2 : Hid (Below w.heap.size w w2) := K0.out.trans (hkk.mono K0.out.size)
  clear hkk
  go_wp2
  refine bodyPost_ret (v := .agg #[.bool false, .string ⟨#[]⟩, .int .i64 0]) ?_ rfl ⟨rfl, ?_⟩
  · have e0' : (((w2.setCell ⟨X + 1, 0, none⟩ (.bool false)).setCell ⟨X + 1, 1, none⟩ (.string ⟨#[]⟩)).setCell ⟨X + 1, 2, none⟩ (.int .i64 0)).cell? ⟨X + 1, 0, none⟩ = some (.bool false) := by rw [World.cell?_setCell_other _ _ _ _ (by simp), World.cell?_setCell_other _ _ _ _ (by simp)]; exact World.cell?_setCell_same' _ _ _ (by rw [r0]; rfl)
    have e1' : (((w2.setCell ⟨X + 1, 0, none⟩ (.bool false)).setCell ⟨X + 1, 1, none⟩ (.string ⟨#[]⟩)).setCell ⟨X + 1, 2, none⟩ (.int .i64 0)).cell? ⟨X + 1, 1, none⟩ = some (.string ⟨#[]⟩) := by rw [World.cell?_setCell_other _ _ _ _ (by simp)]; exact World.cell?_setCell_same' _ _ _ (by rw [World.cell?_setCell_other _ _ _ _ (by simp), r1]; rfl)
    have e2' : (((w2.setCell ⟨X + 1, 0, none⟩ (.bool false)).setCell ⟨X + 1, 1, none⟩ (.string ⟨#[]⟩)).setCell ⟨X + 1, 2, none⟩ (.int .i64 0)).cell? ⟨X + 1, 2, none⟩ = some (.int .i64 0) := World.cell?_setCell_same' _ _ _ (by rw [World.cell?_setCell_other _ _ _ _ (by simp), World.cell?_setCell_other _ _ _ _ (by simp), r2]; rfl)
    simp [results, Tryz.results20, go_sem, e0', e1', e2']
  · have hx : w.heap.size ≤ X + 1 := by have := HX.out; omega
    exact ((K2.out.setCell (p := ⟨X + 1, 0, none⟩) hx _).setCell (p := ⟨X + 1, 1, none⟩) hx _).setCell (p := ⟨X + 1, 2, none⟩) hx _
theorem implTreeCellYes (q : Int) (am av ak : Option Addr) (nm cm nv cv nk ck : Nat) (s0 s1 s2 s3 s4 : Value) (hs : (∃ a n c, s0 = .slice a n c) ∧ (∃ a n c, s1 = .slice a n c) ∧ (∃ a n c, s2 = .slice a n c) ∧ (∃ a n c, s3 = .slice a n c) ∧ (∃ a n c, s4 = .slice a n c)) (key : ByteArray) (seq : Int) (rb : Bool) (rt : ByteArray) (rn : Int) (w : World)
    (hC : ∀ w', Below w.heap.size w w' → Calls Tryz.prog 53 #[.agg #[.int .i64 q, .slice am nm cm, .slice av nv cv, .slice ak nk ck]] w' fun e w'' => e = .returned (.tuple #[.agg #[.int .i64 q, s0, s1, s2, s3, s4], .bool true]) ∧ Below w'.heap.size w' w'')
    (hD : ∀ w', Below w.heap.size w w' → Calls Tryz.prog 54 #[.agg #[.int .i64 q, s0, s1, s2, s3, s4], .string key, .int .i64 seq] w' fun e w'' => e = .returned (.agg #[.bool rb, .string rt, .int .i64 rn]) ∧ Below w'.heap.size w' w'') :
    Calls Tryz.prog 20 #[.agg #[.int .i64 q, .slice am nm cm, .slice av nv cv, .slice ak nk ck], .string key, .int .i64 seq] w fun e w' => e = .returned (.agg #[.bool rb, .string rt, .int .i64 rn]) ∧ Below w.heap.size w w' := by
  obtain ⟨⟨m1, m2, m3, rfl⟩, ⟨y1, y2, y3, rfl⟩, ⟨z1, z2, z3, rfl⟩, ⟨u1, u2, u3, rfl⟩, ⟨v1, v2, v3, rfl⟩⟩ := hs
  obtain ⟨X, hX⟩ : ∃ X, X = w.heap.size := ⟨_, rfl⟩
  obtain ⟨W, hW⟩ : ∃ W, W = (w.alloc (.cells #[.int .i64 q, .slice am nm cm, .slice av nv cv, .slice ak nk ck] 31)).alloc (.cells #[.bool false, .string ⟨#[]⟩, .int .i64 0] 41) := ⟨_, rfl⟩
  have kW : Below w.heap.size w W := by rw [hW]; exact ((Below.refl _ _).alloc (Nat.le_refl _) _).alloc (by simp) _
  have bx : Box4 W X (.int .i64 q) (.slice am nm cm) (.slice av nv cv) (.slice ak nk ck) := by rw [hW, hX]; exact (Box4.new _ _ _ _ _ _).alloc _
  have HRB : Hid (W.cell? ⟨X + 1, 0, none⟩ = some (.bool false) ∧ W.cell? ⟨X + 1, 1, none⟩ = some (.string ⟨#[]⟩) ∧ W.cell? ⟨X + 1, 2, none⟩ = some (.int .i64 0) ∧ (∀ o, W.frozen? ⟨X + 1, o, none⟩ = false) ∧ X + 1 < W.heap.size) := by
    rw [hW, hX]
    refine ⟨?_, ?_, ?_, fun o => ?_, ?_⟩ <;> simp
  have K0 : Hid (Below w.heap.size w W) := kW
  have HX : Hid (X = w.heap.size) := hX
  have BX : Hid (Box4 W X (.int .i64 q) (.slice am nm cm) (.slice av nv cv) (.slice ak nk ck)) := bx
  have CS := hC W kW
  have CD : Hid (∀ w', Below w.heap.size w w' → Calls Tryz.prog 54 #[.agg #[.int .i64 q, .slice m1 m2 m3, .slice y1 y2 y3, .slice z1 z2 z3, .slice u1 u2 u3, .slice v1 v2 v3], .string key, .int .i64 seq] w' fun e w'' => e = .returned (.agg #[.bool rb, .string rt, .int .i64 rn]) ∧ Below w'.heap.size w' w'') := hD
  have x0 := bx.c0
  have x1 := bx.c1
  have x2 := bx.c2
  have x3 := bx.c3
  have xz := bx.lt
  clear bx kW hC hD
  go_enter Tryz.func20, Tryz.ntmps20
  go_wp2_with fail
  rw [← hX, ← hW]
  clear hX hW x0 x1 x2 x3 xz
  refine CS.mono ?_
  rintro e w1 ⟨rfl, hb1⟩
  obtain ⟨wb, hwb⟩ : ∃ wb, wb = w1.alloc (.cells #[.int .i64 q, .slice m1 m2 m3, .slice y1 y2 y3, .slice z1 z2 z3, .slice u1 u2 u3, .slice v1 v2 v3] 67) := ⟨_, rfl⟩
  have kb : Below w1.heap.size w1 wb := by rw [hwb]; exact (Below.refl _ _).alloc (Nat.le_refl _) _
  have HKB : Hid (Below W.heap.size W wb) := hb1.trans (kb.mono hb1.size)
  clear hb1 kb
  go_wp2_with fail
  rw [← hwb]
  clear hwb CS
  refine (CD.out _ (K0.out.trans (HKB.out.mono K0.out.size))).mono ?_
  rintro e w2 ⟨rfl, hb2⟩
  have hkk := HKB.out.trans (hb2.mono HKB.out.size)
  clear hb2
  obtain ⟨r0, r1, r2, rf, rz⟩ := HRB.out
  have r0 := cell_later hkk r0
  have r1 := cell_later hkk r1
  have r2 := cell_later hkk r2
  have rf : ∀ o, w2.frozen? ⟨X + 1, o, none⟩ = false := fun o => (hkk.frozen (p := ⟨X + 1, o, none⟩) rz).trans (rf o)
  have rz := Nat.lt_of_lt_of_le rz hkk.size
  have K2 : Hid (Below w.heap.size w w2) := K0.out.trans (hkk.mono K0.out.size)
  clear hkk
  go_wp2
  refine bodyPost_ret (v := .agg #[.bool rb, .string rt, .int .i64 rn]) ?_ rfl ⟨rfl, ?_⟩
  · have e0' : (((w2.setCell ⟨X + 1, 0, none⟩ (.bool rb)).setCell ⟨X + 1, 1, none⟩ (.string rt)).setCell ⟨X + 1, 2, none⟩ (.int .i64 rn)).cell? ⟨X + 1, 0, none⟩ = some (.bool rb) := by rw [World.cell?_setCell_other _ _ _ _ (by simp), World.cell?_setCell_other _ _ _ _ (by simp)]; exact World.cell?_setCell_same' _ _ _ (by rw [r0]; rfl)
    have e1' : (((w2.setCell ⟨X + 1, 0, none⟩ (.bool rb)).setCell ⟨X + 1, 1, none⟩ (.string rt)).setCell ⟨X + 1, 2, none⟩ (.int .i64 rn)).cell? ⟨X + 1, 1, none⟩ = some (.string rt) := by rw [World.cell?_setCell_other _ _ _ _ (by simp)]; exact World.cell?_setCell_same' _ _ _ (by rw [World.cell?_setCell_other _ _ _ _ (by simp), r1]; rfl)
    have e2' : (((w2.setCell ⟨X + 1, 0, none⟩ (.bool rb)).setCell ⟨X + 1, 1, none⟩ (.string rt)).setCell ⟨X + 1, 2, none⟩ (.int .i64 rn)).cell? ⟨X + 1, 2, none⟩ = some (.int .i64 rn) := World.cell?_setCell_same' _ _ _ (by rw [World.cell?_setCell_other _ _ _ _ (by simp), World.cell?_setCell_other _ _ _ _ (by simp), r2]; rfl)
    simp [results, Tryz.results20, go_sem, e0', e1', e2']
  · have hx : w.heap.size ≤ X + 1 := by have := HX.out; omega
    exact ((K2.out.setCell (p := ⟨X + 1, 0, none⟩) hx _).setCell (p := ⟨X + 1, 1, none⟩) hx _).setCell (p := ⟨X + 1, 2, none⟩) hx _
end Go.Proofs.YtlmgojlffgkciaaGreat

namespace Go.Proofs.YtlmgojlffgkciaaGreat
open Go.RowKit
set_option maxHeartbeats 400000 in
theorem eqCell_same (b : Bool) (t : ByteArray) (n : Int) (w : World) :
    Calls Tryz.prog 21 #[.agg #[.bool b, .string t, .int .i64 n], .agg #[.bool b, .string t, .int .i64 n]] w fun e w' => e = .returned (.bool true) ∧ Below w.heap.size w w' := by
  have hb : (b != b) = false := by cases b <;> rfl
  go_enter Tryz.func21, Tryz.ntmps21
  go_wp2
  go_ret
  exact ⟨rfl, ((Below.refl _ _).alloc (Nat.le_refl _) _).alloc (by simp) _⟩
end Go.Proofs.YtlmgojlffgkciaaGreat
