/-
  The walk of the law FnExactTreeDrop: it answers true at every tree and time.
-/
import Derived.Test.YtlmgojlffgkciaaGreatGa19
import Derived.Test.YtlmgojlffgkciaaGreatGaXTnDrop
import Derived.Test.YtlmgojlffgkciaaGreatGaXDrI
import Derived.Test.YtlmgojlffgkciaaGreatGaXDrS
import Derived.Test.YtlmgojlffgkciaaGreatGaXWGTreeDrop
namespace Go.Proofs.YtlmgojlffgkciaaGreat
open Go.RowKit
set_option maxRecDepth 100000
set_option maxHeartbeats 4000000
theorem dropCloY (cb1 : Nat) (q : Int) (am : Option Addr) (nm cm : Nat) (a0 a1 a2 : Option Addr) (n0 c0 n1 c1 n2 c2 kb ko nk ck : Nat) (M : List EntD) (A B C : List RunD) (S : List Int) (sq : Int) (w : World) (hSh : ShIn w am nm cm a0 n0 c0 a1 n1 c1 a2 n2 c2 (some ⟨kb, ko, none⟩) nk ck M A B C S) (hcb : w.cell? ⟨cb1, 0, none⟩ = some (.int .i64 sq)) (hn : nk ≤ 1000) (hm : sq ∈ S) (Q : Int) (hsn : snapsB S Q = true) :
    Calls Tryz.prog 50 #[.agg #[.int .i64 q, .slice am nm cm, .slice a0 n0 c0, .slice a1 n1 c1, .slice a2 n2 c2, .slice (some ⟨kb, ko, none⟩) nk ck], .pointer (some ⟨cb1, 0, none⟩)] w (HowY q M A B C (dropL S sq) w) := by
  obtain ⟨X, hX⟩ : ∃ X, X = w.heap.size := ⟨_, rfl⟩
  obtain ⟨W, hW⟩ : ∃ W, W = (w.alloc (.cells #[.int .i64 q, .slice am nm cm, .slice a0 n0 c0, .slice a1 n1 c1, .slice a2 n2 c2, .slice (some ⟨kb, ko, none⟩) nk ck] 67)).alloc (.cells #[.int .i64 0, .slice none 0 0, .slice none 0 0, .slice none 0 0, .slice none 0 0, .slice none 0 0] 67) := ⟨_, rfl⟩
  have kW : Below w.heap.size w W := by rw [hW]; exact ((Below.refl _ _).alloc (Nat.le_refl _) _).alloc (by simp) _
  have br : Box6 W (X + 1) (.int .i64 0) (.slice none 0 0) (.slice none 0 0) (.slice none 0 0) (.slice none 0 0) (.slice none 0 0) := by
    have := Box6.new (w.alloc (.cells #[.int .i64 q, .slice am nm cm, .slice a0 n0 c0, .slice a1 n1 c1, .slice a2 n2 c2, .slice (some ⟨kb, ko, none⟩) nk ck] 67)) 67 (.int .i64 0) (.slice none 0 0) (.slice none 0 0) (.slice none 0 0) (.slice none 0 0) (.slice none 0 0)
    rw [World.size_alloc] at this
    rw [hW, hX]
    exact this
  have HX : Hid (X = w.heap.size) := hX
  have K0 : Hid (Below w.heap.size w W) := kW
  have HSH : Hid (ShIn w am nm cm a0 n0 c0 a1 n1 c1 a2 n2 c2 (some ⟨kb, ko, none⟩) nk ck M A B C S) := hSh
  have HXL : Hid (X + 1 < W.heap.size) := br.lt
  have CD : Hid (Calls Tryz.prog 51 #[.agg #[.int .i64 q, .slice am nm cm, .slice a0 n0 c0, .slice a1 n1 c1, .slice a2 n2 c2, .slice (some ⟨kb, ko, none⟩) nk ck], .int .i64 sq] W fun e w' => ∃ a5 n5 c5, e = .returned (.tuple #[.agg #[.int .i64 q, .slice am nm cm, .slice a0 n0 c0, .slice a1 n1 c1, .slice a2 n2 c2, .slice a5 n5 c5], .bool true]) ∧ IntsIn W.heap.size w' a5 n5 c5 (dropL S sq) ∧ Below W.heap.size W w') := implDropYes 0 q am nm cm a0 a1 a2 n0 c0 n1 c1 n2 c2 kb ko nk ck S sq Q W (hSh.sn.keep kW) hn hm hsn
  clear hm hsn
  have hcl := World.block_lt_of_cell? _ _ hcb
  simp only at hcl
  clear kW hSh
  go_enter Tryz.func50, Tryz.ntmps50
  go_wp2_with fail
  rw [← hX, ← hW]
  clear hX hW hcb hcl
  refine CD.out.mono ?_
  rintro e w1 ⟨a5, n5, c5, rfl, hI1, hb1⟩
  have HI1 : Hid (IntsIn W.heap.size w1 a5 n5 c5 (dropL S sq)) := hI1
  clear hI1
  have K1 : Hid (Below w.heap.size w w1) := K0.out.trans (hb1.mono K0.out.size)
  have br1 := br.keep hb1
  have HR1 : Hid (Box6 w1 (X + 1) (.int .i64 0) (.slice none 0 0) (.slice none 0 0) (.slice none 0 0) (.slice none 0 0) (.slice none 0 0)) := br1
  have y0 := br1.c0
  have y1 := br1.c1
  have y2 := br1.c2
  have y3 := br1.c3
  have y4 := br1.c4
  have y5 := br1.c5
  have yf := br1.fz
  have yz := br1.lt
  clear hb1 br br1
  go_wp2
  refine bodyPost_ret (v := .tuple #[.agg #[.int .i64 q, .slice am nm cm, .slice a0 n0 c0, .slice a1 n1 c1, .slice a2 n2 c2, .slice a5 n5 c5], .bool true]) ?_ rfl ⟨_, _, _, _, _, _, _, _, _, _, _, _, _, _, _, rfl, ?_, ?_⟩
  · have e := (((((HR1.out.set0 (.int .i64 q)).set1 (.slice am nm cm)).set2 (.slice a0 n0 c0)).set3 (.slice a1 n1 c1)).set4 (.slice a2 n2 c2)).set5 (.slice a5 n5 c5)
    simp [results, Tryz.results50, go_sem, e.c0, e.c1, e.c2, e.c3, e.c4, e.c5]
  · have hx : w.heap.size ≤ X + 1 := by have := HX.out; omega
    have hxl := HXL.out
    have key : ∀ w', Below w.heap.size w w' → IntsIn 0 w' a5 n5 c5 (dropL S sq) → ShIn w' am nm cm a0 n0 c0 a1 n1 c1 a2 n2 c2 a5 n5 c5 M A B C (dropL S sq) := fun w' k h => ⟨(HSH.out.keep k).mem, (HSH.out.keep k).r0, (HSH.out.keep k).r1, (HSH.out.keep k).r2, h⟩
    have hset : ∀ (w' : World) (o : Nat) (u : Value), Same W.heap.size w' (w'.setCell ⟨X + 1, o, none⟩ u) := fun w' o u => Same.of_set _ _ hxl
    exact key _ ((((((K1.out.setCell (p := ⟨X + 1, 0, none⟩) hx _).setCell (p := ⟨X + 1, 1, none⟩) hx _).setCell (p := ⟨X + 1, 2, none⟩) hx _).setCell (p := ⟨X + 1, 3, none⟩) hx _).setCell (p := ⟨X + 1, 4, none⟩) hx _).setCell (p := ⟨X + 1, 5, none⟩) hx _) (((((((HI1.out.same (hset _ _ _)).same (hset _ _ _)).same (hset _ _ _)).same (hset _ _ _)).same (hset _ _ _)).same (hset _ _ _)).lower (Nat.zero_le _))
  · have hx : w.heap.size ≤ X + 1 := by have := HX.out; omega
    exact (((((K1.out.setCell (p := ⟨X + 1, 0, none⟩) hx _).setCell (p := ⟨X + 1, 1, none⟩) hx _).setCell (p := ⟨X + 1, 2, none⟩) hx _).setCell (p := ⟨X + 1, 3, none⟩) hx _).setCell (p := ⟨X + 1, 4, none⟩) hx _).setCell (p := ⟨X + 1, 5, none⟩) hx _
theorem dropCloN (cb1 : Nat) (q : Int) (am : Option Addr) (nm cm : Nat) (a0 a1 a2 : Option Addr) (n0 c0 n1 c1 n2 c2 kb ko nk ck : Nat) (M : List EntD) (A B C : List RunD) (S : List Int) (sq : Int) (w : World) (hSh : ShIn w am nm cm a0 n0 c0 a1 n1 c1 a2 n2 c2 (some ⟨kb, ko, none⟩) nk ck M A B C S) (hcb : w.cell? ⟨cb1, 0, none⟩ = some (.int .i64 sq)) (hn : nk ≤ 1000) (hm : sq ∉ S) :
    Calls Tryz.prog 50 #[.agg #[.int .i64 q, .slice am nm cm, .slice a0 n0 c0, .slice a1 n1 c1, .slice a2 n2 c2, .slice (some ⟨kb, ko, none⟩) nk ck], .pointer (some ⟨cb1, 0, none⟩)] w (HowN w) := by
  obtain ⟨X, hX⟩ : ∃ X, X = w.heap.size := ⟨_, rfl⟩
  obtain ⟨W, hW⟩ : ∃ W, W = (w.alloc (.cells #[.int .i64 q, .slice am nm cm, .slice a0 n0 c0, .slice a1 n1 c1, .slice a2 n2 c2, .slice (some ⟨kb, ko, none⟩) nk ck] 67)).alloc (.cells #[.int .i64 0, .slice none 0 0, .slice none 0 0, .slice none 0 0, .slice none 0 0, .slice none 0 0] 67) := ⟨_, rfl⟩
  have kW : Below w.heap.size w W := by rw [hW]; exact ((Below.refl _ _).alloc (Nat.le_refl _) _).alloc (by simp) _
  have br : Box6 W (X + 1) (.int .i64 0) (.slice none 0 0) (.slice none 0 0) (.slice none 0 0) (.slice none 0 0) (.slice none 0 0) := by
    have := Box6.new (w.alloc (.cells #[.int .i64 q, .slice am nm cm, .slice a0 n0 c0, .slice a1 n1 c1, .slice a2 n2 c2, .slice (some ⟨kb, ko, none⟩) nk ck] 67)) 67 (.int .i64 0) (.slice none 0 0) (.slice none 0 0) (.slice none 0 0) (.slice none 0 0) (.slice none 0 0)
    rw [World.size_alloc] at this
    rw [hW, hX]
    exact this
  have HX : Hid (X = w.heap.size) := hX
  have K0 : Hid (Below w.heap.size w W) := kW
  have HSH : Hid (ShIn w am nm cm a0 n0 c0 a1 n1 c1 a2 n2 c2 (some ⟨kb, ko, none⟩) nk ck M A B C S) := hSh
  have HXL : Hid (X + 1 < W.heap.size) := br.lt
  have CD : Hid (Calls Tryz.prog 51 #[.agg #[.int .i64 q, .slice am nm cm, .slice a0 n0 c0, .slice a1 n1 c1, .slice a2 n2 c2, .slice (some ⟨kb, ko, none⟩) nk ck], .int .i64 sq] W (HowN W)) := implDropNo 0 q am nm cm a0 a1 a2 n0 c0 n1 c1 n2 c2 kb ko nk ck S sq W (hSh.sn.keep kW) hn hm
  clear hm
  have hcl := World.block_lt_of_cell? _ _ hcb
  simp only at hcl
  clear kW hSh
  go_enter Tryz.func50, Tryz.ntmps50
  go_wp2_with fail
  rw [← hX, ← hW]
  clear hX hW hcb hcl
  refine CD.out.mono ?_
  rintro e w1 ⟨q2, am2, nm2, cm2, a02, n02, c02, a12, n12, c12, a22, n22, c22, ak2, nk2, ck2, rfl, hb1⟩
  have K1 : Hid (Below w.heap.size w w1) := K0.out.trans (hb1.mono K0.out.size)
  have br1 := br.keep hb1
  have HR1 : Hid (Box6 w1 (X + 1) (.int .i64 0) (.slice none 0 0) (.slice none 0 0) (.slice none 0 0) (.slice none 0 0) (.slice none 0 0)) := br1
  have y0 := br1.c0
  have y1 := br1.c1
  have y2 := br1.c2
  have y3 := br1.c3
  have y4 := br1.c4
  have y5 := br1.c5
  have yf := br1.fz
  have yz := br1.lt
  clear hb1 br br1
  go_wp2
  refine bodyPost_ret (v := .tuple #[.agg #[.int .i64 q2, .slice am2 nm2 cm2, .slice a02 n02 c02, .slice a12 n12 c12, .slice a22 n22 c22, .slice ak2 nk2 ck2], .bool false]) ?_ rfl ⟨_, _, _, _, _, _, _, _, _, _, _, _, _, _, _, _, rfl, ?_⟩
  · have e := (((((HR1.out.set0 (.int .i64 q2)).set1 (.slice am2 nm2 cm2)).set2 (.slice a02 n02 c02)).set3 (.slice a12 n12 c12)).set4 (.slice a22 n22 c22)).set5 (.slice ak2 nk2 ck2)
    simp [results, Tryz.results50, go_sem, e.c0, e.c1, e.c2, e.c3, e.c4, e.c5]
  · have hx : w.heap.size ≤ X + 1 := by have := HX.out; omega
    exact (((((K1.out.setCell (p := ⟨X + 1, 0, none⟩) hx _).setCell (p := ⟨X + 1, 1, none⟩) hx _).setCell (p := ⟨X + 1, 2, none⟩) hx _).setCell (p := ⟨X + 1, 3, none⟩) hx _).setCell (p := ⟨X + 1, 4, none⟩) hx _).setCell (p := ⟨X + 1, 5, none⟩) hx _
theorem wrapTreeDrop (q : Int) (am : Option Addr) (nm cm : Nat) (av : Option Addr) (nv cv : Nat) (ak : Option Addr) (nk ck : Nat) (sq : Int) (q2 : Int) (M2 : List EntD) (V2 : List (List RunD)) (S2 : List Int) (ok : Bool) (w : World)
    (hC : ∀ w', Below w.heap.size w w' → w'.cell? ⟨w.heap.size + 1, 0, none⟩ = some (.int .i64 sq) → Calls Tryz.prog 42 #[.agg #[.int .i64 q, .slice am nm cm, .slice av nv cv, .slice ak nk ck], .func (.func 50) #[] #[.pointer (some ⟨w.heap.size + 1, 0, none⟩)]] w' (ImpR q2 M2 V2 S2 ok w')) :
    Calls Tryz.prog 18 #[.agg #[.int .i64 q, .slice am nm cm, .slice av nv cv, .slice ak nk ck], .int .i64 sq] w (ImpR q2 M2 V2 S2 ok w) := by
  obtain ⟨X, hX⟩ : ∃ X, X = w.heap.size := ⟨_, rfl⟩
  obtain ⟨W, hW⟩ : ∃ W, W = ((w.alloc (.cells #[.int .i64 q, .slice am nm cm, .slice av nv cv, .slice ak nk ck] 31)).alloc (.cells #[.int .i64 sq] 3)).alloc (.cells #[.int .i64 0, .slice none 0 0, .slice none 0 0, .slice none 0 0] 31) := ⟨_, rfl⟩
  have kW : Below w.heap.size w W := by rw [hW]; exact ((((Below.refl _ _).alloc (Nat.le_refl _) _).alloc (by simp; try omega) _).alloc (by simp; try omega) _)
  have br : Box4 W (X + 1 + 1) (.int .i64 0) (.slice none 0 0) (.slice none 0 0) (.slice none 0 0) := by
    have := Box4.new ((w.alloc (.cells #[.int .i64 q, .slice am nm cm, .slice av nv cv, .slice ak nk ck] 31)).alloc (.cells #[.int .i64 sq] 3)) 31 (.int .i64 0) (.slice none 0 0) (.slice none 0 0) (.slice none 0 0)
    simp only [World.size_alloc] at this
    rw [hW, hX]
    exact this
  have HX : Hid (X = w.heap.size) := hX
  have K0 : Hid (Below w.heap.size w W) := kW
  have CT : Hid (Calls Tryz.prog 42 #[.agg #[.int .i64 q, .slice am nm cm, .slice av nv cv, .slice ak nk ck], .func (.func 50) #[] #[.pointer (some ⟨X + 1, 0, none⟩)]] W (ImpR q2 M2 V2 S2 ok W)) := by
    try rw [hX]
    exact hC W kW (by rw [hW]; have h1 := cell_one_new' (w.alloc (.cells #[.int .i64 q, .slice am nm cm, .slice av nv cv, .slice ak nk ck] 31)) (.int .i64 sq) 3 0 _ rfl; rw [Go.WideShapes.add_plain, World.size_alloc] at h1; exact cell_later ((Below.refl _ _).alloc (Nat.le_refl _) _) h1)
  have HXL : Hid (X + 1 + 1 < W.heap.size) := br.lt
  clear kW hC
  go_enter Tryz.func18, Tryz.ntmps18
  go_wp2_with fail
  rw [← hX, ← hW]
  clear hX hW
  refine CT.out.mono ?_
  rintro e w1 ⟨a1, n1, a2, n2, a3, n3, gs, bs, es, rfl, hR1, hb1⟩
  have K1 : Hid (Below w.heap.size w w1) := K0.out.trans (hb1.mono K0.out.size)
  have HR1 : Hid (ResT W.heap.size w1.heap.size w1 a1 n1 a2 n2 a3 n3 M2 V2 S2 gs bs es) := hR1
  have br1 := br.keep hb1
  have HB1 : Hid (Box4 w1 (X + 1 + 1) (.int .i64 0) (.slice none 0 0) (.slice none 0 0) (.slice none 0 0)) := br1
  have r0 := br1.c0
  have r1 := br1.c1
  have r2 := br1.c2
  have r3 := br1.c3
  have rf := br1.fz
  have rz := br1.lt
  clear hb1 br hR1 CT br1
  go_wp2
  refine bodyPost_ret (v := .tuple #[.agg #[.int .i64 q2, .slice a1 n1 n1, .slice a2 n2 n2, .slice a3 n3 n3], .bool ok]) ?_ rfl ⟨a1, n1, a2, n2, a3, n3, gs, bs, es, rfl, ?_, ?_⟩
  · have e := (((HB1.out.set0 (.int .i64 q2)).set1 (.slice a1 n1 n1)).set2 (.slice a2 n2 n2)).set3 (.slice a3 n3 n3)
    simp [results, Tryz.results18, go_sem, e.c0, e.c1, e.c2, e.c3]
  · exact resT_four HR1.out HXL.out K0.out.size (by simp [World.setCell]) _ _ _ _
  · have hx : w.heap.size ≤ X + 1 + 1 := by have := HX.out; omega
    exact (((K1.out.setCell (p := ⟨X + 1 + 1, 0, none⟩) hx _).setCell (p := ⟨X + 1 + 1, 1, none⟩) hx _).setCell (p := ⟨X + 1 + 1, 2, none⟩) hx _).setCell (p := ⟨X + 1 + 1, 3, none⟩) hx _
theorem dropBoth (q : Int) (nm nv ns : Nat) (M : List EntD) (V : List (List RunD)) (S : List Int) (sq : Int) (hsum : SumOk M V S) (htb : treeB q M V S = true) :
    (∀ (a b c : Nat) (w' : World), TreeIn 0 w' (some ⟨a, 0, none⟩) nm nm (some ⟨b, 0, none⟩) nv nv (some ⟨c, 0, none⟩) ns ns M V S → Calls Tryz.prog 17 #[.agg #[.int .i64 q, .slice (some ⟨a, 0, none⟩) nm nm, .slice (some ⟨b, 0, none⟩) nv nv, .slice (some ⟨c, 0, none⟩) ns ns], .int .i64 sq] w' (DocR q M V (dropL S sq) (decide (sq ∈ S)) w')) ∧
    (∀ (a b c : Nat) (w' : World), TreeIn 0 w' (some ⟨a, 0, none⟩) nm nm (some ⟨b, 0, none⟩) nv nv (some ⟨c, 0, none⟩) ns ns M V S → Calls Tryz.prog 18 #[.agg #[.int .i64 q, .slice (some ⟨a, 0, none⟩) nm nm, .slice (some ⟨b, 0, none⟩) nv nv, .slice (some ⟨c, 0, none⟩) ns ns], .int .i64 sq] w' (ImpR q M V (dropL S sq) (decide (sq ∈ S)) w')) := by
  refine ⟨fun a b c w' hT => specDrop 0 q a nm nm _ nv nv c ns ns M V S sq w' hT htb, fun a b c w' hT => ?_⟩
  have hsn := (tree_parts htb).2.2.2.2.2.2.1
  have hns : ns ≤ 1000 := by
    unfold snapsB at hsn
    rw [Bool.and_eq_true] at hsn
    have h2 := of_decide_eq_true hsn.1
    have h3 := hT.snaps.length
    omega
  refine wrapTreeDrop q _ nm nm _ nv nv _ ns ns sq q M V (dropL S sq) (decide (sq ∈ S)) w' (fun w2 k2 hc2 => ?_)
  obtain ⟨b', off, A, B, C, a0, n0, c0, a1, n1, c1, a2, n2, c2, hb', rfl, rfl, hsh, hCS⟩ := (hT.keep k2).share htb
  cases hb'
  have hout := outOk_sum hsum
  by_cases hm : sq ∈ S
  · rw [decide_eq_true hm]
    have hout2 : OutOk M A B C (dropL S sq) := ⟨hout.bm, Nat.le_trans (drop_len S sq) hout.bk, hout.em, hout.b0, hout.b1, hout.b2, hout.e0, hout.e1, hout.e2⟩
    exact turnedYesDrop (w'.heap.size + 1) q _ nm nm b 0 3 _ ns ns a0 n0 c0 a1 n1 c1 a2 n2 c2 q M A B C (dropL S sq) w2 hCS (fun w3 k3 => dropCloY _ q _ nm nm a0 a1 a2 n0 c0 n1 c1 n2 c2 c 0 ns ns M A B C S sq w3 (hsh.keep k3) (cell_later k3 hc2) hns hm q hsn) hout2
  · rw [decide_eq_false hm, drop_none hm]
    exact turnedNotDrop (w'.heap.size + 1) q _ nm nm b 0 3 _ ns ns a0 n0 c0 a1 n1 c1 a2 n2 c2 M A B C S w2 hsh hCS (fun w3 k3 => dropCloN _ q _ nm nm a0 a1 a2 n0 c0 n1 c1 n2 c2 c 0 ns ns M A B C S sq w3 (hsh.keep k3) (cell_later k3 hc2) hns hm) hout
theorem walkFnExactTreeDrop (q1 : Int) (m1 : Option Addr) (nm1 cm1 : Nat) (v1 : Option Addr) (nv1 cv1 : Nat) (k1 : Option Addr) (ns1 cs1 : Nat) (M1 : List EntD) (V1 : List (List RunD)) (S1 : List Int) (sq : Int) (w : World) (w0 : (Lit.int .i64 q1).wf = true ∧ TreeIn 0 w m1 nm1 cm1 v1 nv1 cv1 k1 ns1 cs1 M1 V1 S1) (_w1 : (Lit.int .i64 sq).wf = true) :
    Calls Tryz.prog 4 #[.agg #[.int .i64 q1, .slice m1 nm1 cm1, .slice v1 nv1 cv1, .slice k1 ns1 cs1], .int .i64 sq] w fun e w' => e = .returned (.bool true) ∧ Below w.heap.size w w' := by
  cases htb : treeB q1 M1 V1 S1 with
  | true =>
    refine walkGTreeDrop q1 m1 nm1 cm1 v1 nv1 cv1 k1 ns1 cs1 M1 V1 S1 sq q1 M1 V1 (dropL S1 sq) (decide (sq ∈ S1)) w w0.2 (fun hsum => ?_)
    obtain ⟨h1, h2⟩ := dropBoth q1 nm1 nv1 ns1 M1 V1 S1 sq hsum htb
    refine ⟨h1, h2, ?_, fun z hz => w0.2.snaps.wfs z (drop_mem hz)⟩
    have h3 := fits_sum hsum.1
    have h4 := drop_len S1 sq
    exact ⟨h3.1, h3.2.1, h3.2.2.1, by have := h3.2.2.2.1; omega, by have := h3.2.2.2.2; omega⟩
  | false =>
    refine walkGTreeDrop q1 m1 nm1 cm1 v1 nv1 cv1 k1 ns1 cs1 M1 V1 S1 sq 0 [] [] [] false w w0.2 (fun hsum => ⟨fun a b c w' hT => ?_, fun a b c w' hT => ?_, fits_nil, fun z hz => by cases hz⟩)
    · exact (specDropNo 0 q1 _ _ _ _ _ _ _ _ _ M1 V1 S1 sq w' hT htb).mono (fun e w'' h => docR_none h)
    · exact wrapTreeDrop q1 _ _ _ _ _ _ _ _ _ sq 0 [] [] [] false w' (fun w2 k2 _ => (turnedNo 0 q1 _ _ _ _ _ _ _ _ _ _ M1 V1 S1 w2 (hT.keep k2) htb).mono (fun e w'' h => impR_none h))
end Go.Proofs.YtlmgojlffgkciaaGreat
