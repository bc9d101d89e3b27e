/-
  The program's turned at Write: what it answers at a right tree, by a walk of its Go text.
  Entries that are given their times: plain facts.
  The program's timed: what it answers at every list of entries, by a walk of its Go text.
  Rows of stretches in own memory: two cells each. No function of the program is walked here.
-/
import Derived.Test.YtlmgojlffgkciaaGreatWb32
import Derived.Test.YtlmgojlffgkciaaGreatWb00
import Derived.Test.YtlmgojlffgkciaaGreatWb05
import Derived.Test.YtlmgojlffgkciaaGreatWb18
import Derived.Test.YtlmgojlffgkciaaGreatWb31
import Derived.Laws.AppendOwnNone
import Derived.Test.YtlmgojlffgkciaaGreatWb23
namespace Go.Proofs.YtlmgojlffgkciaaGreat
open Go.RowKit

set_option maxRecDepth 100000 in
set_option maxHeartbeats 8000000 in
theorem turnedYesWrite (cb1 : Nat)  (sq : Int) (am : Option Addr) (nm cm b off cv : Nat) (ak : Option Addr) (nk ck : Nat) (a0 : Option Addr) (n0 c0 : Nat) (a1 : Option Addr) (n1 c1 : Nat) (a2 : Option Addr) (n2 c2 : Nat) (q2 : Int) (M2 : List EntD) (A2 B2 C2 : List RunD) (S2 : List Int) (w : World) (hCS : ∀ w', Below w.heap.size w w' → Calls Tryz.prog 53 #[.agg #[.int .i64 sq, .slice am nm cm, .slice (some ⟨b, off, none⟩) 3 cv, .slice ak nk ck]] w' fun e w'' => e = .returned (.tuple #[.agg #[.int .i64 sq, .slice am nm cm, .slice a0 n0 c0, .slice a1 n1 c1, .slice a2 n2 c2, .slice ak nk ck], .bool true]) ∧ Below w'.heap.size w' w'') (hC : ∀ w', Below w.heap.size w w' → Calls Tryz.prog 58 #[.agg #[.int .i64 sq, .slice am nm cm, .slice a0 n0 c0, .slice a1 n1 c1, .slice a2 n2 c2, .slice ak nk ck], .pointer (some ⟨cb1, 0, none⟩)] w' (HowY q2 M2 A2 B2 C2 S2 w')) (ho : OutOk M2 A2 B2 C2 S2) :
    Calls Tryz.prog 42 #[.agg #[.int .i64 sq, .slice am nm cm, .slice (some ⟨b, off, none⟩) 3 cv, .slice ak nk ck], .func (.func 58) #[] #[.pointer (some ⟨cb1, 0, none⟩)]] w (ImpR q2 M2 [A2, B2, C2] S2 true w) := by
  have HCS : Hid (∀ w', Below w.heap.size w w' → Calls Tryz.prog 53 #[.agg #[.int .i64 sq, .slice am nm cm, .slice (some ⟨b, off, none⟩) 3 cv, .slice ak nk ck]] w' fun e w'' => e = .returned (.tuple #[.agg #[.int .i64 sq, .slice am nm cm, .slice a0 n0 c0, .slice a1 n1 c1, .slice a2 n2 c2, .slice ak nk ck], .bool true]) ∧ Below w'.heap.size w' w'') := hCS
  obtain ⟨X, hX⟩ : ∃ X, X = w.heap.size := ⟨_, rfl⟩
  obtain ⟨W, hW⟩ : ∃ W, W = (w.alloc (.cells #[.int .i64 sq, .slice am nm cm, .slice (some ⟨b, off, none⟩) 3 cv, .slice ak nk ck] 31)).alloc (.cells #[.int .i64 0, .slice none 0 0, .slice none 0 0, .slice none 0 0] 31) := ⟨_, rfl⟩
  have kW : Below w.heap.size w W := by rw [hW]; exact ((Below.refl _ _).alloc (Nat.le_refl _) _).alloc (by simp) _
  have br : Box4 W (X + 1) (.int .i64 0) (.slice none 0 0) (.slice none 0 0) (.slice none 0 0) := by
    have := Box4.new (w.alloc (.cells #[.int .i64 sq, .slice am nm cm, .slice (some ⟨b, off, none⟩) 3 cv, .slice ak nk ck] 31)) 31 (.int .i64 0) (.slice none 0 0) (.slice none 0 0) (.slice none 0 0)
    rw [World.size_alloc] at this
    rw [hW, hX]
    exact this
  have HX : Hid (X = w.heap.size) := hX
  have K0 : Hid (Below w.heap.size w W) := kW
  have BR0 : Hid (Box4 W (X + 1) (.int .i64 0) (.slice none 0 0) (.slice none 0 0) (.slice none 0 0)) := br
  have CSN : Hid (∀ w', Below w.heap.size w w' → Calls Tryz.prog 58 #[.agg #[.int .i64 sq, .slice am nm cm, .slice a0 n0 c0, .slice a1 n1 c1, .slice a2 n2 c2, .slice ak nk ck], .pointer (some ⟨cb1, 0, none⟩)] w' (HowY q2 M2 A2 B2 C2 S2 w')) := hC
  have HO : Hid (OutOk M2 A2 B2 C2 S2) := ho
  clear kW br hCS hC ho
  go_enter Tryz.func42, Tryz.ntmps42
  go_wp2_with fail
  rw [← hX, ← hW]
  clear hX hW
  refine (HCS.out _ K0.out).mono ?_
  rintro e w1 ⟨rfl, hb1⟩
  obtain ⟨w2, hw2⟩ : ∃ w2, w2 = w1.alloc (.cells #[.int .i64 sq, .slice am nm cm, .slice a0 n0 c0, .slice a1 n1 c1, .slice a2 n2 c2, .slice ak nk ck] 67) := ⟨_, rfl⟩
  have k2 : Below w1.heap.size w1 w2 := by rw [hw2]; exact (Below.refl _ _).alloc (Nat.le_refl _) _
  have K2 : Hid (Below w.heap.size w w2) := (K0.out.trans (hb1.mono K0.out.size)).trans (k2.mono (Nat.le_trans K0.out.size hb1.size))
  have BR2 : Hid (Box4 w2 (X + 1) (.int .i64 0) (.slice none 0 0) (.slice none 0 0) (.slice none 0 0)) := (BR0.out.keep hb1).keep k2
  clear hb1 k2
  go_wp2_with fail
  rw [← hw2]
  refine (CSN.out _ K2.out).mono ?_
  rintro e w3 ⟨am2, nm2, cm2, a02, n02, c02, a12, n12, c12, a22, n22, c22, ak2, nk2, ck2, rfl, hI3, hb3⟩
  obtain ⟨w4, hw4⟩ : ∃ w4, w4 = w3.alloc (.cells #[.int .i64 q2, .slice am2 nm2 cm2, .slice a02 n02 c02, .slice a12 n12 c12, .slice a22 n22 c22, .slice ak2 nk2 ck2] 67) := ⟨_, rfl⟩
  have k4 : Below w3.heap.size w3 w4 := by rw [hw4]; exact (Below.refl _ _).alloc (Nat.le_refl _) _
  have K4 : Hid (Below w.heap.size w w4) := (K2.out.trans (hb3.mono K2.out.size)).trans (k4.mono (Nat.le_trans K2.out.size hb3.size))
  have BR4 : Hid (Box4 w4 (X + 1) (.int .i64 0) (.slice none 0 0) (.slice none 0 0) (.slice none 0 0)) := (BR2.out.keep hb3).keep k4
  have HI4 : Hid (ShIn w4 am2 nm2 cm2 a02 n02 c02 a12 n12 c12 a22 n22 c22 ak2 nk2 ck2 M2 A2 B2 C2 S2) := hI3.keep k4
  clear hb3 k4 hI3 hw2
  go_wp2_with fail
  rw [← hw4]
  clear hw4
  refine (asTree_g q2 _ _ _ _ _ _ _ _ _ _ _ _ _ _ _ M2 A2 B2 C2 S2 _ HI4.out HO.out).mono ?_
  rintro e w5 ⟨eb, vb, sb, gs, bs, es, rfl, _, hO5, hb5⟩
  have K5 : Hid (Below w.heap.size w w5) := K4.out.trans (hb5.mono K4.out.size)
  have HO5 : Hid (TreeO w4.heap.size w5.heap.size w5 eb nm2 vb 3 sb nk2 M2 [A2, B2, C2] S2 gs bs es) := hO5
  have r5 := (BR4.out.keep hb5)
  have HR5 : Hid (Box4 w5 (X + 1) (.int .i64 0) (.slice none 0 0) (.slice none 0 0) (.slice none 0 0)) := r5
  have HXL : Hid (X + 1 < w4.heap.size) := BR4.out.lt
  have d0 := r5.c0
  have d1 := r5.c1
  have d2 := r5.c2
  have d3 := r5.c3
  have df := r5.fz
  have dz := r5.lt
  clear hO5 hb5 r5
  go_wp2
  refine bodyPost_ret (v := .tuple #[.agg #[.int .i64 q2, .slice (some ⟨eb, 0, none⟩) nm2 nm2, .slice (some ⟨vb, 0, none⟩) 3 3, .slice (some ⟨sb, 0, none⟩) nk2 nk2], .bool true]) ?_ rfl ⟨some ⟨eb, 0, none⟩, nm2, some ⟨vb, 0, none⟩, 3, some ⟨sb, 0, none⟩, nk2, gs, bs, es, rfl, .inl ⟨eb, vb, sb, rfl, rfl, rfl, ?_⟩, ?_⟩
  · have e := (((HR5.out.set0 (.int .i64 q2)).set1 (.slice (some ⟨eb, 0, none⟩) nm2 nm2)).set2 (.slice (some ⟨vb, 0, none⟩) 3 3)).set3 (.slice (some ⟨sb, 0, none⟩) nk2 nk2)
    simp [results, Tryz.results42, go_sem, e.c0, e.c1, e.c2, e.c3]
  · exact treeO_four HO5.out HXL.out K4.out.size (by simp [World.setCell]) _ _ _ _
  · have hx : w.heap.size ≤ X + 1 := by have := HX.out; omega
    exact (((K5.out.setCell (p := ⟨X + 1, 0, none⟩) hx _).setCell (p := ⟨X + 1, 1, none⟩) hx _).setCell (p := ⟨X + 1, 2, none⟩) hx _).setCell (p := ⟨X + 1, 3, none⟩) hx _

set_option maxRecDepth 100000 in
set_option maxHeartbeats 8000000 in
theorem turnedNotWrite (cb1 : Nat)  (sq : Int) (am : Option Addr) (nm cm b off cv : Nat) (ak : Option Addr) (nk ck : Nat) (a0 : Option Addr) (n0 c0 : Nat) (a1 : Option Addr) (n1 c1 : Nat) (a2 : Option Addr) (n2 c2 : Nat) (M : List EntD) (A B C : List RunD) (S : List Int) (w : World) (hSh : ShIn w am nm cm a0 n0 c0 a1 n1 c1 a2 n2 c2 ak nk ck M A B C S) (hCS : ∀ w', Below w.heap.size w w' → Calls Tryz.prog 53 #[.agg #[.int .i64 sq, .slice am nm cm, .slice (some ⟨b, off, none⟩) 3 cv, .slice ak nk ck]] w' fun e w'' => e = .returned (.tuple #[.agg #[.int .i64 sq, .slice am nm cm, .slice a0 n0 c0, .slice a1 n1 c1, .slice a2 n2 c2, .slice ak nk ck], .bool true]) ∧ Below w'.heap.size w' w'') (hC : ∀ w', Below w.heap.size w w' → Calls Tryz.prog 58 #[.agg #[.int .i64 sq, .slice am nm cm, .slice a0 n0 c0, .slice a1 n1 c1, .slice a2 n2 c2, .slice ak nk ck], .pointer (some ⟨cb1, 0, none⟩)] w' (HowN w')) (ho : OutOk M A B C S) :
    Calls Tryz.prog 42 #[.agg #[.int .i64 sq, .slice am nm cm, .slice (some ⟨b, off, none⟩) 3 cv, .slice ak nk ck], .func (.func 58) #[] #[.pointer (some ⟨cb1, 0, none⟩)]] w (ImpR sq M [A, B, C] S false w) := by
  have HCS : Hid (∀ w', Below w.heap.size w w' → Calls Tryz.prog 53 #[.agg #[.int .i64 sq, .slice am nm cm, .slice (some ⟨b, off, none⟩) 3 cv, .slice ak nk ck]] w' fun e w'' => e = .returned (.tuple #[.agg #[.int .i64 sq, .slice am nm cm, .slice a0 n0 c0, .slice a1 n1 c1, .slice a2 n2 c2, .slice ak nk ck], .bool true]) ∧ Below w'.heap.size w' w'') := hCS
  obtain ⟨X, hX⟩ : ∃ X, X = w.heap.size := ⟨_, rfl⟩
  obtain ⟨W, hW⟩ : ∃ W, W = (w.alloc (.cells #[.int .i64 sq, .slice am nm cm, .slice (some ⟨b, off, none⟩) 3 cv, .slice ak nk ck] 31)).alloc (.cells #[.int .i64 0, .slice none 0 0, .slice none 0 0, .slice none 0 0] 31) := ⟨_, rfl⟩
  have kW : Below w.heap.size w W := by rw [hW]; exact ((Below.refl _ _).alloc (Nat.le_refl _) _).alloc (by simp) _
  have br : Box4 W (X + 1) (.int .i64 0) (.slice none 0 0) (.slice none 0 0) (.slice none 0 0) := by
    have := Box4.new (w.alloc (.cells #[.int .i64 sq, .slice am nm cm, .slice (some ⟨b, off, none⟩) 3 cv, .slice ak nk ck] 31)) 31 (.int .i64 0) (.slice none 0 0) (.slice none 0 0) (.slice none 0 0)
    rw [World.size_alloc] at this
    rw [hW, hX]
    exact this
  have HX : Hid (X = w.heap.size) := hX
  have K0 : Hid (Below w.heap.size w W) := kW
  have BR0 : Hid (Box4 W (X + 1) (.int .i64 0) (.slice none 0 0) (.slice none 0 0) (.slice none 0 0)) := br
  have CSN : Hid (∀ w', Below w.heap.size w w' → Calls Tryz.prog 58 #[.agg #[.int .i64 sq, .slice am nm cm, .slice a0 n0 c0, .slice a1 n1 c1, .slice a2 n2 c2, .slice ak nk ck], .pointer (some ⟨cb1, 0, none⟩)] w' (HowN w')) := hC
  have HO : Hid (OutOk M A B C S) := ho
  have HSI : Hid (ShIn w am nm cm a0 n0 c0 a1 n1 c1 a2 n2 c2 ak nk ck M A B C S) := hSh
  clear kW br hCS hC ho hSh
  go_enter Tryz.func42, Tryz.ntmps42
  go_wp2_with fail
  rw [← hX, ← hW]
  clear hX hW
  refine (HCS.out _ K0.out).mono ?_
  rintro e w1 ⟨rfl, hb1⟩
  obtain ⟨P1, hP1⟩ : ∃ P1, P1 = w1.heap.size := ⟨_, rfl⟩
  obtain ⟨w2, hw2⟩ : ∃ w2, w2 = w1.alloc (.cells #[.int .i64 sq, .slice am nm cm, .slice a0 n0 c0, .slice a1 n1 c1, .slice a2 n2 c2, .slice ak nk ck] 67) := ⟨_, rfl⟩
  have k2 : Below w1.heap.size w1 w2 := by rw [hw2]; exact (Below.refl _ _).alloc (Nat.le_refl _) _
  have K2 : Hid (Below w.heap.size w w2) := (K0.out.trans (hb1.mono K0.out.size)).trans (k2.mono (Nat.le_trans K0.out.size hb1.size))
  have BR2 : Hid (Box4 w2 (X + 1) (.int .i64 0) (.slice none 0 0) (.slice none 0 0) (.slice none 0 0)) := (BR0.out.keep hb1).keep k2
  have BW2 : Hid (Box6 w2 P1 (.int .i64 sq) (.slice am nm cm) (.slice a0 n0 c0) (.slice a1 n1 c1) (.slice a2 n2 c2) (.slice ak nk ck)) := by rw [hw2, hP1]; exact Box6.new _ _ _ _ _ _ _ _
  clear hb1 k2
  go_wp2_with fail
  rw [← hw2]
  try rw [← hP1]
  clear hP1 hw2
  refine (CSN.out _ K2.out).mono ?_
  rintro e w3 ⟨q2, am2, nm2, cm2, a02, n02, c02, a12, n12, c12, a22, n22, c22, ak2, nk2, ck2, rfl, hb3⟩
  have BW3 : Hid (Box6 w3 P1 (.int .i64 sq) (.slice am nm cm) (.slice a0 n0 c0) (.slice a1 n1 c1) (.slice a2 n2 c2) (.slice ak nk ck)) := BW2.out.keep hb3
  obtain ⟨P2, hP2⟩ : ∃ P2, P2 = w3.heap.size := ⟨_, rfl⟩
  obtain ⟨wn, hwn⟩ : ∃ wn, wn = w3.alloc (.cells #[.int .i64 q2, .slice am2 nm2 cm2, .slice a02 n02 c02, .slice a12 n12 c12, .slice a22 n22 c22, .slice ak2 nk2 ck2] 67) := ⟨_, rfl⟩
  have kn : Below w3.heap.size w3 wn := by rw [hwn]; exact (Below.refl _ _).alloc (Nat.le_refl _) _
  have K3 : Hid (Below w.heap.size w w3) := K2.out.trans (hb3.mono K2.out.size)
  have Kn : Hid (Below w.heap.size w wn) := K3.out.trans (kn.mono K3.out.size)
  have bwn := BW3.out.keep kn
  have bnn : Box6 wn P2 (.int .i64 q2) (.slice am2 nm2 cm2) (.slice a02 n02 c02) (.slice a12 n12 c12) (.slice a22 n22 c22) (.slice ak2 nk2 ck2) := by rw [hwn, hP2]; exact Box6.new _ _ _ _ _ _ _ _
  have hP2w : w.heap.size ≤ P2 := by rw [hP2]; exact K3.out.size
  have rn := (BR2.out.keep hb3).keep kn
  have hrP : X + 1 ≠ P2 := by rw [hP2]; have := (BR2.out.keep hb3).lt; omega
  obtain ⟨w4, hw4⟩ : ∃ w4, w4 = (((((wn.setCell ⟨P2, 0, none⟩ (.int .i64 sq)).setCell ⟨P2, 1, none⟩ (.slice am nm cm)).setCell ⟨P2, 2, none⟩ (.slice a0 n0 c0)).setCell ⟨P2, 3, none⟩ (.slice a1 n1 c1)).setCell ⟨P2, 4, none⟩ (.slice a2 n2 c2)).setCell ⟨P2, 5, none⟩ (.slice ak nk ck) := ⟨_, rfl⟩
  have K4 : Hid (Below w.heap.size w w4) := by
    rw [hw4]
    exact (((((Kn.out.setCell (p := ⟨P2, 0, none⟩) hP2w _).setCell (p := ⟨P2, 1, none⟩) hP2w _).setCell (p := ⟨P2, 2, none⟩) hP2w _).setCell (p := ⟨P2, 3, none⟩) hP2w _).setCell (p := ⟨P2, 4, none⟩) hP2w _).setCell (p := ⟨P2, 5, none⟩) hP2w _
  have BR4 : Hid (Box4 w4 (X + 1) (.int .i64 0) (.slice none 0 0) (.slice none 0 0) (.slice none 0 0)) := by
    rw [hw4]
    exact (((((rn.other (b' := P2) (o := 0) hrP.symm _).other (b' := P2) (o := 1) hrP.symm _).other (b' := P2) (o := 2) hrP.symm _).other (b' := P2) (o := 3) hrP.symm _).other (b' := P2) (o := 4) hrP.symm _).other (b' := P2) (o := 5) hrP.symm _
  have x0 := bwn.c0
  have x1 := bwn.c1
  have x2 := bwn.c2
  have x3 := bwn.c3
  have x4 := bwn.c4
  have x5 := bwn.c5
  have xz := bwn.lt
  have y0 := bnn.c0
  have y1 := bnn.c1
  have y2 := bnn.c2
  have y3 := bnn.c3
  have y4 := bnn.c4
  have y5 := bnn.c5
  have yf := bnn.fz
  have yz := bnn.lt
  have hne : P1 ≠ P2 := by rw [hP2]; have := BW3.out.lt; omega
  clear hb3 kn rn bwn bnn hrP hP2w
  go_upto_region 6 with fail
  rw [← hwn]
  try rw [← hP2]
  clear hwn hP2
  go_wp2_with fail
  rw [← hw4]
  clear hw4 x0 x1 x2 x3 x4 x5 xz y0 y1 y2 y3 y4 y5 yf yz
  refine (asTree_g sq _ _ _ _ _ _ _ _ _ _ _ _ _ _ _ M A B C S _ (HSI.out.keep K4.out) HO.out).mono ?_
  rintro e w5 ⟨eb, vb, sb, gs, bs, es, rfl, _, hO5, hb5⟩
  have K5 : Hid (Below w.heap.size w w5) := K4.out.trans (hb5.mono K4.out.size)
  have HO5 : Hid (TreeO w4.heap.size w5.heap.size w5 eb nm vb 3 sb nk M [A, B, C] S gs bs es) := hO5
  have r5 := (BR4.out.keep hb5)
  have HR5 : Hid (Box4 w5 (X + 1) (.int .i64 0) (.slice none 0 0) (.slice none 0 0) (.slice none 0 0)) := r5
  have HXL : Hid (X + 1 < w4.heap.size) := BR4.out.lt
  have d0 := r5.c0
  have d1 := r5.c1
  have d2 := r5.c2
  have d3 := r5.c3
  have df := r5.fz
  have dz := r5.lt
  clear hO5 hb5 r5
  go_wp2
  refine bodyPost_ret (v := .tuple #[.agg #[.int .i64 sq, .slice (some ⟨eb, 0, none⟩) nm nm, .slice (some ⟨vb, 0, none⟩) 3 3, .slice (some ⟨sb, 0, none⟩) nk nk], .bool false]) ?_ rfl ⟨some ⟨eb, 0, none⟩, nm, some ⟨vb, 0, none⟩, 3, some ⟨sb, 0, none⟩, nk, gs, bs, es, rfl, .inl ⟨eb, vb, sb, rfl, rfl, rfl, ?_⟩, ?_⟩
  · have e := (((HR5.out.set0 (.int .i64 sq)).set1 (.slice (some ⟨eb, 0, none⟩) nm nm)).set2 (.slice (some ⟨vb, 0, none⟩) 3 3)).set3 (.slice (some ⟨sb, 0, none⟩) nk nk)
    simp [results, Tryz.results42, go_sem, e.c0, e.c1, e.c2, e.c3]
  · exact treeO_four HO5.out HXL.out K4.out.size (by simp [World.setCell]) _ _ _ _
  · have hx : w.heap.size ≤ X + 1 := by have := HX.out; omega
    exact (((K5.out.setCell (p := ⟨X + 1, 0, none⟩) hx _).setCell (p := ⟨X + 1, 1, none⟩) hx _).setCell (p := ⟨X + 1, 2, none⟩) hx _).setCell (p := ⟨X + 1, 3, none⟩) hx _
end Go.Proofs.YtlmgojlffgkciaaGreat

namespace Go.Proofs.YtlmgojlffgkciaaGreat
open Go.RowKit

/-- Entry number i with its time. -/
def stE (q : Int) (i : Nat) (e : EntD) : EntD := (e.1, q + 1 + i, e.2.2)
def stL (q : Int) (K : List EntD) : List EntD := K.mapIdx (stE q)
theorem stL_take {q : Int} {K : List EntD} {i : Nat} {e : EntD} (h : K[i]? = some e) : stL q (K.take (i + 1)) = stL q (K.take i) ++ [stE q i e] := by
  have hi := (List.getElem?_eq_some_iff.1 h).1
  unfold stL
  rw [List.take_add_one, h]
  simp only [Option.toList_some]
  rw [List.mapIdx_concat, List.length_take, Nat.min_eq_left (by omega)]
theorem stL_len (q : Int) (K : List EntD) : (stL q K).length = K.length := by simp [stL]
/-- Entry number i may be given its time. -/
def stAt (q : Int) (K : List EntD) (i : Nat) : Bool := match K[i]? with
  | none => true
  | some e => decide (e.2.1 = 0) && entB e.1 (q + 1 + i) e.2.2.1 e.2.2.2.1 e.2.2.2.2
def stampB (q : Int) (K : List EntD) : Bool := (List.range K.length).all (stAt q K)
theorem stamp_yes {q : Int} {K : List EntD} {n : Nat} (hl : K.length = n) (h : ∀ j, j < n → stAt q K j = true) : stampB q K = true := by
  unfold stampB
  rw [List.all_eq_true]
  intro j hj
  exact h j (by rw [← hl]; exact List.mem_range.1 hj)
theorem stamp_no {q : Int} {K : List EntD} {i : Nat} (hi : i < K.length) (h : stAt q K i = false) : stampB q K = false := by
  unfold stampB
  rw [List.all_eq_false]
  exact ⟨i, List.mem_range.2 hi, by rw [h]; simp⟩
theorem st_no0 {q : Int} {K : List EntD} {i : Nat} {e : EntD} (h : K[i]? = some e) (h0 : ¬ e.2.1 = 0) : stAt q K i = false := by
  unfold stAt
  rw [h]
  simp [h0]
theorem st_at {q : Int} {K : List EntD} {i : Nat} {e : EntD} (h : K[i]? = some e) (h0 : e.2.1 = 0) : stAt q K i = entB e.1 (q + 1 + i) e.2.2.1 e.2.2.2.1 e.2.2.2.2 := by
  unfold stAt
  rw [h]
  simp [h0]
theorem stamp_ent {q : Int} {K : List EntD} (h : stampB q K = true) {i : Nat} {e : EntD} (he : (stL q K)[i]? = some e) : entB e.1 e.2.1 e.2.2.1 e.2.2.2.1 e.2.2.2.2 = true := by
  have hi := (List.getElem?_eq_some_iff.1 he).1
  rw [stL_len] at hi
  unfold stampB at h
  rw [List.all_eq_true] at h
  have h1 := h i (List.mem_range.2 hi)
  have hk := List.getElem?_eq_getElem hi
  unfold stAt at h1
  rw [hk] at h1
  simp only [Bool.and_eq_true] at h1
  unfold stL at he
  rw [List.getElem?_mapIdx, hk] at he
  simp only [Option.map_some, Option.some.injEq] at he
  subst he
  exact h1.2
/-- A write is done. -/
def writeO (q : Int) (M K : List EntD) : Bool := decide (1 ≤ K.length) && (decide (K.length ≤ 12) && (decide (M.length + K.length ≤ 60) && stampB q K))
/-- A row is a list of the call's own, or nil. -/
theorem ownO_row {w : World} {base n : Nat} {v : Value} {L : List EntD} (h : w.ownsRow base 78 5 v n (flatE L)) (hl : L.length = n) (hw : ∀ l ∈ L, EntW l) : ∃ a c, v = .slice a n c ∧ OwnO w base a n c L := by
  rcases h.2 with ⟨hv, h0⟩ | ⟨g, cap, cur, hv, _⟩
  · subst hv h0
    obtain rfl := List.length_eq_zero_iff.1 hl
    exact ⟨none, 0, rfl, OwnO.none _ _⟩
  · subst hv
    exact ⟨_, cap, rfl, OwnO.some ⟨h, hl, hw⟩⟩
theorem cell_five_new (w : World) (s : ByteArray) (Q d : Int) (t : ByteArray) (m : Int) : ∀ j u, [Value.string s, .int .i64 Q, .int .i64 d, .string t, .int .i64 m][j]? = some u → (w.alloc (.cells #[.string s, .int .i64 Q, .int .i64 d, .string t, .int .i64 m] 78)).cell? ((⟨w.heap.size, 0, none⟩ : Addr).add j) = some u := by
  intro j u hu
  rw [Go.WideShapes.add_plain]
  match j, hu with
  | 0, hu => simp at hu; subst hu; simp
  | 1, hu => simp at hu; subst hu; simp
  | 2, hu => simp at hu; subst hu; simp
  | 3, hu => simp at hu; subst hu; simp
  | 4, hu => simp at hu; subst hu; simp
/-- A row stays where nothing below is changed. -/
theorem row_stays {w w' : World} {base e size n : Nat} {v : Value} {xs : List Value} (h : w.ownsRow base e size v n xs) (hb : Below w.heap.size w w') : w'.ownsRow base e size v n xs := h.kept (row := none) ⟨hb.os, hb.tape, hb.output, hb.size, fun k hk _ => hb.block k hk⟩ (by
  cases v.ownBlock with
  | none => exact .inl rfl
  | some x => exact .inr (by simp))
/-- What the document's stamping answers. -/
def StampS (q : Int) (K : List EntD) (n : Nat) (w : World) (e : Ending) (w' : World) : Prop := ∃ v ok, e = .returned (.tuple #[v, .bool ok]) ∧ (stampB q K = true → (∃ g c', v = .slice (some ⟨g, 0, none⟩) n c' ∧ OwnE w' w.heap.size g n c' (stL q K)) ∧ ok = (decide (1 ≤ n) && decide (n ≤ 12))) ∧ (stampB q K = false → ok = false ∧ ∃ a m c', v = .slice a m c') ∧ Below w.heap.size w w'
/-- What the program's stamping answers. -/
def StampI (q : Int) (K : List EntD) (n : Nat) (w : World) (e : Ending) (w' : World) : Prop := ∃ v ok, e = .returned (.tuple #[v, .bool ok]) ∧ (stampB q K = true → (∃ a c', v = .slice a n c' ∧ OwnO w' w.heap.size a n c' (stL q K)) ∧ ok = decide (0 < n)) ∧ (stampB q K = false → ok = false ∧ v = .slice none 0 0) ∧ Below w.heap.size w w'
end Go.Proofs.YtlmgojlffgkciaaGreat

namespace Go.Proofs.YtlmgojlffgkciaaGreat
open Go.RowKit

set_option maxRecDepth 100000 in
set_option maxHeartbeats 8000000 in
theorem implTimed (a : Option Addr) (n c : Nat) (K : List EntD) (q : Int) (w : World) (hK : EntsAt w a n c K) (hn : n ≤ 1048576) (hq0 : 0 ≤ q) (hq1 : q ≤ 100000) :
    Calls Tryz.prog 95 #[.slice a n c, .int .i64 q] w fun e w' => StampI q K n w e w' := by
  have HK : Hid (EntsAt w a n c K) := hK
  have HKL : Hid (K.length = n) := hK.length
  clear hK
  obtain ⟨i0, hi, hz0, hz1, hz2⟩ := info_parts Tryz.infoEnt
  go_enter Tryz.func95, Tryz.ntmps95
  go_wp2
  go_loopw [6, 11] (fun vv iv wr => ∃ i : Nat, i ≤ n ∧ iv = .int .i64 i ∧ wr.ownsRow w.heap.size 78 5 vv i (flatE (stL q (K.take i))) ∧ (∀ l ∈ stL q (K.take i), EntW l) ∧ (∀ j, j < i → stAt q K j = true) ∧ Below w.heap.size w wr) (fun _ iv _ => n - (intOf iv).toNat)
  case atStart => exact ⟨0, Nat.zero_le _, rfl, by simpa [stL, flatE] using World.ownsRow_nil _ _ _ _, (by simp [stL]), (fun j hj => absurd hj (Nat.not_lt_zero _)), Below.refl _ _⟩
  case round =>
    obtain ⟨i, hin, rfl, hv, hw, hst, hb⟩ := hrel
    have HV : Hid (wr.ownsRow w.heap.size 78 5 _ i (flatE (stL q (K.take i)))) := hv
    have HW : Hid (∀ l ∈ stL q (K.take i), EntW l) := hw
    have HST : Hid (∀ j, j < i → stAt q K j = true) := hst
    have HB : Hid (Below w.heap.size w wr) := hb
    have hbz := hb.size
    clear hv hw hst
    by_cases hlt : i < n
    · have hltI : (i : Int) < (n : Int) := by omega
      obtain ⟨b, off, rfl, hbb⟩ := HK.out.form (by omega)
      obtain ⟨s, q0, d, t, m, hg, hlw, g0, g1, g2, g3, g4⟩ := HK.out.ent hb hbb i hlt
      have HG : Hid (K[i]? = some (s, q0, d, t, m)) := hg
      have HLW : Hid (EntW (s, q0, d, t, m)) := hlw
      have hbr : b < wr.heap.size := Nat.lt_of_lt_of_le hbb hb.size
      clear hg hlw hb
      by_cases h0 : q0 = 0
      · subst h0
        have e1 : IntKind.i64.wrap (q + 1) = q + 1 := by rw [IntWalk.i64_left]; unfold wrap64; omega
        have e2 : IntKind.i64.wrap (q + 1 + (i : Int)) = q + 1 + (i : Int) := by rw [IntWalk.i64_left]; unfold wrap64; omega
        obtain ⟨Q, hQ⟩ : ∃ Q : Int, Q = q + 1 + (i : Int) := ⟨_, rfl⟩
        have HQ : Hid (Q = q + 1 + (i : Int)) := hQ
        obtain ⟨wq, hwq⟩ : ∃ wq, wq = wr.alloc (.cells #[.string s, .int .i64 (q + 1 + (i : Int)), .int .i64 d, .string t, .int .i64 m] 78) := ⟨_, rfl⟩
        obtain ⟨Bx, hBx⟩ : ∃ Bx, Bx = wr.heap.size := ⟨_, rfl⟩
        have kq : Below wr.heap.size wr wq := by rw [hwq]; exact (Below.refl _ _).alloc (Nat.le_refl _) _
        have b5 : wq.cell? ⟨Bx, 0, none⟩ = some (.string s) ∧ wq.cell? ⟨Bx, 1, none⟩ = some (.int .i64 Q) ∧ wq.cell? ⟨Bx, 2, none⟩ = some (.int .i64 d) ∧ wq.cell? ⟨Bx, 3, none⟩ = some (.string t) ∧ wq.cell? ⟨Bx, 4, none⟩ = some (.int .i64 m) ∧ Bx < wq.heap.size := by
          rw [hwq, hBx, hQ]
          refine ⟨?_, ?_, ?_, ?_, ?_, ?_⟩ <;> simp
        have B5 : Hid (wq.cell? ⟨Bx, 0, none⟩ = some (.string s) ∧ wq.cell? ⟨Bx, 1, none⟩ = some (.int .i64 Q) ∧ wq.cell? ⟨Bx, 2, none⟩ = some (.int .i64 d) ∧ wq.cell? ⟨Bx, 3, none⟩ = some (.string t) ∧ wq.cell? ⟨Bx, 4, none⟩ = some (.int .i64 m) ∧ Bx < wq.heap.size) := b5
        obtain ⟨O, hO⟩ : ∃ O, O = entB s Q d t m := ⟨_, rfl⟩
        have CE : Hid (Calls Tryz.prog 140 #[.agg #[.string s, .int .i64 Q, .int .i64 d, .string t, .int .i64 m]] wq fun e w' => e = .returned (.bool O) ∧ Below wq.heap.size wq w') := by rw [hO]; exact implEnt s t Q d m wq HLW.out.1
        have HOA : Hid (stAt q K i = O) := by
          show stAt q K i = O
          rw [st_at HG.out rfl, hO, hQ]
        have HBQ : Hid (Below w.heap.size w wq) := HB.out.trans (kq.mono HB.out.size)
        have HVQ : Hid (wq.ownsRow w.heap.size 78 5 _ i (flatE (stL q (K.take i)))) := row_stays HV.out kq
        have HWE : Hid (EntW (s, Q, d, t, m)) := ⟨HLW.out.1, (by rw [hQ]; exact WalkArith.wf_i64 (by omega) : (Lit.int .i64 Q).wf = true), HLW.out.2.2⟩
        clear kq b5 hO
        go_upto_region 8 with fail
        rw [← hwq]
        try rw [← hBx]
        try rw [← hQ]
        clear hwq hBx hQ
        obtain ⟨y0, y1, y2, y3, y4, yz⟩ := B5.out
        go_wp2_with fail
        clear y0 y1 y2 y3 y4 yz g0 g1 g2 g3 g4
        refine CE.out.mono ?_
        rintro e w1 ⟨rfl, hb1⟩
        have HB1 : Hid (Below w.heap.size w w1) := HBQ.out.trans (hb1.mono HBQ.out.size)
        have HV1 : Hid (w1.ownsRow w.heap.size 78 5 _ i (flatE (stL q (K.take i)))) := row_stays HVQ.out hb1
        obtain ⟨y0, y1, y2, y3, y4, yz⟩ := B5.out
        have y0 := cell_later hb1 y0
        have y1 := cell_later hb1 y1
        have y2 := cell_later hb1 y2
        have y3 := cell_later hb1 y3
        have y4 := cell_later hb1 y4
        have yz := Nat.lt_of_lt_of_le yz hb1.size
        have hb1z := HB1.out.size
        clear hb1
        cases O with
        | false =>
          have HNO : Hid (stampB q K = false) := stamp_no (i := i) (by rw [HKL.out]; exact hlt) HOA.out
          go_wp2
          exact bodyPost_ret (v := .tuple #[.slice none 0 0, .bool false]) (by simp [results, Tryz.results95, go_sem]) rfl (show StampI q K _ w _ _ from ⟨_, _, rfl, (fun h => by rw [HNO.out] at h; cases h), fun _ => ⟨rfl, rfl⟩, HB1.out⟩)
        | true =>
          have hcn : ∀ j u, [Value.string s, .int .i64 Q, .int .i64 d, .string t, .int .i64 m][j]? = some u → (w1.alloc (.cells #[.string s, .int .i64 Q, .int .i64 d, .string t, .int .i64 m] 78)).cell? ((⟨w1.heap.size, 0, none⟩ : Addr).add j) = some u := cell_five_new w1 s Q d t m
          have HCN : Hid _ := hcn
          have ka : Below w1.heap.size w1 (w1.alloc (.cells #[.string s, .int .i64 Q, .int .i64 d, .string t, .int .i64 m] 78)) := (Below.refl _ _).alloc (Nat.le_refl _) _
          have HVA : Hid ((w1.alloc (.cells #[.string s, .int .i64 Q, .int .i64 d, .string t, .int .i64 m] 78)).ownsRow w.heap.size 78 5 _ i (flatE (stL q (K.take i)))) := row_stays HV1.out ka
          have HBA : Hid (Below w.heap.size w (w1.alloc (.cells #[.string s, .int .i64 Q, .int .i64 d, .string t, .int .i64 m] 78))) := HB1.out.trans (ka.mono HB1.out.size)
          clear hcn ka
          go_wp2_with (at_builtin; refine wpList_append_own _ rfl _ _ 28 rfl w.heap.size 78 i0 _ 5 56 Tryz.underlying28 hi hz0 hz1 hz2 rfl (by decide) _ _ _ rfl HVA.out ⟨w1.heap.size, 0, none⟩ 1 1 [.string s, .int .i64 Q, .int .i64 d, .string t, .int .i64 m] rfl rfl HCN.out (by intro u hu; simp at hu; rcases hu with rfl | rfl | rfl | rfl | rfl <;> rfl) (by unfold maxLen; omega) (by omega) HBA.out.size ?_; intro v2 w2 hown2 hgrow2 hnil2)
          go_roundw
          case rel =>
            have e3 : stL q (K.take (i + 1)) = stL q (K.take i) ++ [(s, Q, d, t, m)] := by
              rw [stL_take HG.out, HQ.out]
              rfl
            refine ⟨i + 1, by omega, by go_num, ?_, ?_, ?_, ?_⟩
            · rw [e3, flatE_append]
              exact hown2
            · rw [e3]
              intro l hl
              rcases List.mem_append.1 hl with h | h
              · exact HW.out l h
              · rw [List.mem_singleton] at h; subst h; exact HWE.out
            · intro j hj
              by_cases hji : j < i
              · exact HST.out j hji
              · rw [show j = i by omega]; exact HOA.out
            · exact HBA.out.grown hgrow2 HBA.out.size (fun k e => (HVA.out.lt k e).1)
          case measure => simp [intOf]; omega
      · have HNO : Hid (stampB q K = false) := stamp_no (i := i) (by rw [HKL.out]; exact hlt) (st_no0 HG.out h0)
        have h0b : (q0 == 0) = false := by simpa using h0
        have h0d : decide (q0 = 0) = false := decide_eq_false h0
        have HBN : Hid (Below w.heap.size w (wr.alloc (.cells #[.string s, .int .i64 q0, .int .i64 d, .string t, .int .i64 m] 78))) := HB.out.alloc HB.out.size _
        go_wp2
        exact bodyPost_ret (v := .tuple #[.slice none 0 0, .bool false]) (by simp [results, Tryz.results95, go_sem]) rfl (show StampI q K _ w _ _ from ⟨_, _, rfl, (fun h => by rw [HNO.out] at h; cases h), fun _ => ⟨rfl, rfl⟩, HBN.out⟩)
    · have hltI : ¬ (i : Int) < (n : Int) := by omega
      obtain rfl : i = n := by omega
      have HYES : Hid (stampB q K = true) := stamp_yes HKL.out HST.out
      have HFIN := HV.out
      rw [List.take_of_length_le (by rw [HKL.out]; omega)] at HFIN
      have hwl := HW.out
      rw [List.take_of_length_le (by rw [HKL.out]; omega)] at hwl
      have hsl : (stL q K).length = i := by rw [stL_len, HKL.out]
      obtain ⟨a5, c5, hv5, hO5⟩ := ownO_row HFIN hsl hwl
      subst hv5
      have HRES : Hid (OwnO wr w.heap.size a5 i c5 (stL q K)) := hO5
      clear HFIN hwl hsl hO5
      by_cases h1 : 0 < i
      · have h1I : (i : Int) > 0 := by omega
        have h1J : (0 : Int) < (i : Int) := by omega
        go_wp2
        exact bodyPost_ret (v := .tuple #[.slice a5 i c5, .bool true]) (by simp [results, Tryz.results95, go_sem]) rfl (show StampI q K _ w _ _ from ⟨_, _, rfl, (fun _ => ⟨⟨a5, c5, rfl, HRES.out⟩, by simp [h1]⟩), (fun h => by rw [HYES.out] at h; cases h), HB.out⟩)
      · have h1I : ¬ (i : Int) > 0 := by omega
        have h1J : ¬ (0 : Int) < (i : Int) := by omega
        go_wp2
        exact bodyPost_ret (v := .tuple #[.slice a5 i c5, .bool false]) (by simp [results, Tryz.results95, go_sem]) rfl (show StampI q K _ w _ _ from ⟨_, _, rfl, (fun _ => ⟨⟨a5, c5, rfl, HRES.out⟩, by simp [h1]⟩), (fun h => by rw [HYES.out] at h; cases h), HB.out⟩)
end Go.Proofs.YtlmgojlffgkciaaGreat

namespace Go.Proofs.YtlmgojlffgkciaaGreat
open Go.RowKit

/-- A stretch: where what is left of it lies, and its number. -/
abbrev StrD := Nat × Nat × Nat × Nat × Nat
def strCells (x : StrD) : List Value := [.slice (some ⟨x.1, x.2.1, none⟩) x.2.2.1 x.2.2.2.1, .int .i64 x.2.2.2.2]
def flatH (X : List StrD) : List Value := X.flatMap strCells
theorem flatH_cons (x : StrD) (X : List StrD) : flatH (x :: X) = .slice (some ⟨x.1, x.2.1, none⟩) x.2.2.1 x.2.2.2.1 :: .int .i64 x.2.2.2.2 :: flatH X := rfl
theorem flatH_append (A B : List StrD) : flatH (A ++ B) = flatH A ++ flatH B := by simp [flatH]
theorem flatH_len (X : List StrD) : (flatH X).length = X.length * 2 := by
  induction X with
  | nil => rfl
  | cons x r ih => rw [flatH_cons, List.length_cons, List.length_cons, ih, List.length_cons]; omega
theorem flatH_has : ∀ (X : List StrD) (j : Nat) (x : StrD), X[j]? = some x → (flatH X)[j * 2]? = some (.slice (some ⟨x.1, x.2.1, none⟩) x.2.2.1 x.2.2.2.1) ∧ (flatH X)[j * 2 + 1]? = some (.int .i64 x.2.2.2.2)
  | [], j, x, h => by simp at h
  | y :: X, 0, x, h => by simp at h; subst h; exact ⟨rfl, rfl⟩
  | y :: X, j + 1, x, h => by
    have := flatH_has X j x (by simpa using h)
    rw [flatH_cons, show (j + 1) * 2 = j * 2 + 1 + 1 by omega]
    exact ⟨by rw [List.getElem?_cons_succ, List.getElem?_cons_succ]; exact this.1, by rw [List.getElem?_cons_succ, List.getElem?_cons_succ]; exact this.2⟩
theorem flatH_set : ∀ (X : List StrD) (j : Nat) (x : StrD), ((flatH X).set (j * 2) (.slice (some ⟨x.1, x.2.1, none⟩) x.2.2.1 x.2.2.2.1)).set (j * 2 + 1) (.int .i64 x.2.2.2.2) = flatH (X.set j x)
  | [], j, x => rfl
  | y :: X, 0, x => rfl
  | y :: X, j + 1, x => by
    have := flatH_set X j x
    rw [flatH_cons, show (j + 1) * 2 = j * 2 + 1 + 1 by omega, List.set_cons_succ, List.set_cons_succ, List.set_cons_succ, List.set_cons_succ, this]
    rfl
structure OwnH (w : World) (base g n c : Nat) (X : List StrD) : Prop where
  owns : w.ownsRow base 136 2 (.slice (some ⟨g, 0, none⟩) n c) n (flatH X)
  len : X.length = n
theorem OwnH.lt {w : World} {base g n c : Nat} {X : List StrD} (h : OwnH w base g n c X) : base ≤ g ∧ g < w.heap.size := h.owns.lt g rfl
theorem OwnH.grown {w w' : World} {base g n c : Nat} {X : List StrD} {row : Option Nat} (h : OwnH w base g n c X) (hg : w.grownBy w' row) (hne : some g ≠ row) : OwnH w' base g n c X := ⟨h.owns.kept hg (.inr hne), h.len⟩
theorem OwnH.below {w w' : World} {base g n c : Nat} {X : List StrD} (h : OwnH w base g n c X) (hb : Below w.heap.size w w') : OwnH w' base g n c X :=
  h.grown (row := none) ⟨hb.os, hb.tape, hb.output, hb.size, fun k hk _ => hb.block k hk⟩ (by simp)
theorem OwnH.at2 {w : World} {base g n c i : Nat} {X : List StrD} {x : StrD} (h : OwnH w base g n c X) (hx : X[i]? = some x) : w.cell? ⟨g, i * 2, none⟩ = some (.slice (some ⟨x.1, x.2.1, none⟩) x.2.2.1 x.2.2.2.1) ∧ w.cell? ⟨g, i * 2 + 1, none⟩ = some (.int .i64 x.2.2.2.2) := by
  have hc := h.owns.cells (g := g) rfl
  obtain ⟨h0, h1⟩ := flatH_has X i x hx
  have a0 := hc _ _ h0
  have a1 := hc _ _ h1
  rw [Go.WideShapes.add_plain] at a0 a1
  simp only [Nat.zero_add] at a0 a1
  exact ⟨a0, a1⟩
theorem OwnH.cells {w : World} {base g n c : Nat} {X : List StrD} (h : OwnH w base g n c X) : ∃ cc, w.heap[g]? = some (.cells cc 136 (0, 0)) := by
  rcases h.owns.2 with ⟨hv, _⟩ | ⟨g', cap, cur, hv, _, hg, _⟩
  · cases hv
  · cases hv
    exact ⟨_, hg⟩
/-- A stretch written over another. -/
def setH (w : World) (g i : Nat) (x : StrD) : World := (w.setCell ⟨g, i * 2, none⟩ (.slice (some ⟨x.1, x.2.1, none⟩) x.2.2.1 x.2.2.2.1)).setCell ⟨g, i * 2 + 1, none⟩ (.int .i64 x.2.2.2.2)
theorem OwnH.setH {w : World} {base g n c i : Nat} {X : List StrD} {x : StrD} (h : OwnH w base g n c X) : OwnH (setH w g i x) base g n c (X.set i x) := by
  have t0 := h.owns.stored (i * 2) (.slice (some ⟨x.1, x.2.1, none⟩) x.2.2.1 x.2.2.2.1)
  have t1 := t0.1.stored (i * 2 + 1) (.int .i64 x.2.2.2.2)
  refine ⟨?_, by simp [h.len]⟩
  have h1 := t1.1
  rw [flatH_set] at h1
  exact h1
theorem grown_cellH (w : World) (g o : Nat) (v : Value) : w.grownBy (w.setCell ⟨g, o, none⟩ v) (some g) :=
  ⟨rfl, rfl, rfl, by simp [World.setCell], fun k _ hk => Below.heap_setCell _ _ _ _ (fun e => hk (by rw [e]))⟩
theorem grown_setH (w : World) (g i : Nat) (x : StrD) : w.grownBy (Go.Proofs.YtlmgojlffgkciaaGreat.setH w g i x) (some g) := (grown_cellH _ _ _ _).trans (grown_cellH _ _ _ _)
end Go.Proofs.YtlmgojlffgkciaaGreat
